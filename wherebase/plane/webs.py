"""Webs: the corners, edges and rooms into which sides and points divide the plane."""

from wherebase.base.geometry import line_through, way
from wherebase.base.order import slope_ranks
from wherebase.plane.cuts import cut
from wherebase.plane.under import half_below


class Web:
    """The corners, edges and rooms that sides and points make in the plane; a room is a face.

    Corners are told by their indices in `spots`, which ascends; edges by their indices in `ties`, which
    holds pairs of corners and ascends, too. Edge k has two halves: 2 * k leads from its lesser corner to
    the greater one, 2 * k + 1 leads back. A half has a room at its left. Room 0 is the unbounded one.
    """

    def __init__(self, sides, points):
        self.spots, self.steps, self.chains = cut(sides, points)
        self.spans = [(self.spots[chain[0]], self.spots[chain[-1]]) for chain in self.chains]
        self.rulers = [line_through(left, right) for left, right in self.spans]
        self.ties, self.covering = _linked(self.chains)
        self.spot_at = {point: index for index, point in enumerate(self.spots)}
        self.tie_at = {tie: index for index, tie in enumerate(self.ties)}
        # no direction to the right has a rank as great as this one: the opposite directions come behind
        self.half_turn = len(self.chains)
        self.turns = self._turned()
        self.leaving = self._gathered()
        self.after = self._followed()
        self.walks, self.walk_at = _walked(self.after)
        self.first_spots = self._first_spots()
        self.lone_rooms = {}
        self._settle_rooms()

    def tail(self, half):
        """The corner from which a half leads."""
        return self.ties[half // 2][half % 2]

    def head(self, half):
        """The corner to which a half leads."""
        return self.ties[half // 2][1 - half % 2]

    def half_from(self, start, end):
        """The half that leads from one corner to another one."""
        if start < end:
            return 2 * self.tie_at[(start, end)]
        return 2 * self.tie_at[(end, start)] + 1

    def room_around(self, spot):
        """Some room that borders on a corner, or the room in which the corner lies alone."""
        if self.leaving[spot]:
            return self.rooms_left[self.leaving[spot][0]]
        return self.lone_rooms[spot]

    def _turned(self):
        """For each half the rank of its direction, counter-clockwise from straight down."""
        ranks = slope_ranks([way(left, right) for left, right in self.spans])
        turns = []
        for (start, end), cover in zip(self.ties, self.covering):
            rank = ranks[cover[0]]
            if self.steps[start] < self.steps[end]:
                turns.extend([rank, rank + self.half_turn])
            else:
                turns.extend([rank + self.half_turn, rank])
        return turns

    def _gathered(self):
        """For each corner the halves that lead from it, counter-clockwise from straight down."""
        turned = [[] for _ in self.spots]
        for half in range(len(self.turns)):
            turned[self.tail(half)].append((self.turns[half], half))
        return [[half for _, half in sorted(halves)] for halves in turned]

    def _followed(self):
        """For each half the next one of its walk: at the corner, the next edge clockwise from its own."""
        after = [0] * len(self.turns)
        for halves in self.leaving:
            for place, half in enumerate(halves):
                after[half ^ 1] = halves[place - 1]
        return after

    def _first_spots(self):
        """For each connected part its leftmost corner, the lowest one of these; from left to right."""
        seen = [False] * len(self.spots)
        found = []
        for _, first in sorted([(step, spot) for spot, step in enumerate(self.steps)]):
            if not seen[first]:
                found.append(first)
                self._see_part(seen, first)
        return found

    def _see_part(self, seen, first):
        seen[first] = True
        waiting = [first]
        while waiting:
            spot = waiting.pop()
            for half in self.leaving[spot]:
                neighbour = self.head(half)
                if not seen[neighbour]:
                    seen[neighbour] = True
                    waiting.append(neighbour)

    def _settle_rooms(self):
        """Gives each walk the room whose border it follows, and each lone corner its room."""
        outer = {}
        for first in self.first_spots:
            if self.leaving[first]:
                # nothing of the part lies further left, so this walk goes around the whole part
                outer[self.walk_at[self.leaving[first][-1]]] = True
        self.room_at = [0] * len(self.walks)
        self.room_count = 1
        for walk in range(len(self.walks)):
            if walk not in outer:
                self.room_at[walk] = self.room_count
                self.room_count += 1
        for first in self.first_spots:
            room = self.room_of_point(self.spots[first])
            if self.leaving[first]:
                self.room_at[self.walk_at[self.leaving[first][-1]]] = room
            else:
                self.lone_rooms[first] = room
        self.rooms_left = [self.room_at[walk] for walk in self.walk_at]
        self.borders = [[] for _ in range(self.room_count)]
        for half in range(len(self.turns)):
            self.borders[self.rooms_left[half]].append(half)

    def room_of_point(self, point):
        """The room of a point that lies on no edge.

        It is the room above the next edge below the point. Parts are settled from left to right, so the
        walk along that edge has its room when this is asked for a leftmost corner.
        """
        half = half_below(self, point)
        if half is None:
            return 0
        return self.room_at[self.walk_at[half]]


def _linked(chains):
    """The ascending edges, and for each of them the indices of the sides on which it lies."""
    covers = {}
    for side, chain in enumerate(chains):
        for start, end in zip(chain, chain[1:]):
            covers.setdefault((min(start, end), max(start, end)), []).append(side)
    ties = sorted(list(covers))
    return ties, [covers[tie] for tie in ties]


def _walked(after):
    """The walks, each a list of halves, and for each half the index of its walk."""
    walk_at = [-1] * len(after)
    walks = []
    for first in range(len(after)):
        if walk_at[first] == -1:
            walk = []
            half = first
            while walk_at[half] == -1:
                walk_at[half] = len(walks)
                walk.append(half)
                half = after[half]
            walks.append(walk)
    return walks, walk_at
