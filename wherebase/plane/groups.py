"""Numbers that are joined into groups."""


class Groups:
    """The numbers from 0 on, each in a group by itself until groups are joined."""

    def __init__(self, count):
        self._lower = list(range(count))

    def least(self, number):
        """The least number of the group of a number."""
        lower = self._lower
        while lower[number] != number:
            # a shorter way for the next time, so that ways never grow long
            lower[number] = lower[lower[number]]
            number = lower[number]
        return number

    def unite(self, one, other):
        """Makes one group of two."""
        one, other = self.least(one), self.least(other)
        self._lower[max(one, other)] = min(one, other)

    def all_least(self):
        """The least numbers of all groups, ascending."""
        return [number for number, lower in enumerate(self._lower) if lower == number]
