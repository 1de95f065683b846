"""Integers that put fractions in order, so that they can be sorted without being compared in pairs."""


def fine_bits(bottoms):
    """So many bits that unlike fractions with these bottoms differ by more than one unit of the last bit."""
    return 2 * max([bottom.bit_length() for bottom in bottoms], default=0)


def steps_of(points):
    """A pair of integers for each point, which put the points in order from left to right, then upwards."""
    bits = fine_bits([point[2] for point in points])
    return [((x << bits) // w, (y << bits) // w) for x, y, w in points]


def fraction_steps(fractions):
    """An integer for each fraction, in the order of the fractions."""
    bits = fine_bits([bottom for top, bottom in fractions])
    return [(top << bits) // bottom for top, bottom in fractions]


def slope_ranks(ways):
    """A rank for each direction that leads to the right or straight up: the steeper, the greater."""
    rising = fraction_steps([(dy, max(dx, 1)) for dx, dy in ways])
    keys = [(1, 0) if ways[k][0] == 0 else (0, rising[k]) for k in range(len(ways))]
    ranks = {key: rank for rank, key in enumerate(sorted(set(keys)))}
    return [ranks[key] for key in keys]
