"""What is told of a shape, and the least form of the shape that is told."""

from wherebase.base.numbers import is_integer
from wherebase.base.points import is_point
from wherebase.plane.forms import form_of
from wherebase.plane.sheets import flooded, marks_of, ring_sides
from wherebase.plane.webs import Web


def is_told_corner(value):
    """Whether the value is a point or a pair of integers."""
    if is_point(value):
        return True
    return isinstance(value, tuple) and len(value) == 2 and is_integer(value[0]) and is_integer(value[1])


def are_told_corners(value):
    """Whether the value is a tuple of told corners."""
    return isinstance(value, tuple) and all([is_told_corner(corner) for corner in value])


def is_told_ring(value):
    """Whether the value is a tuple of three or more told corners."""
    return are_told_corners(value) and len(value) >= 3


def is_told_area(value):
    """Whether the value is a tuple of one or more told rings."""
    return isinstance(value, tuple) and len(value) >= 1 and all([is_told_ring(ring) for ring in value])


def is_told_piece(value):
    """Whether the value is a pair of told corners."""
    return are_told_corners(value) and len(value) == 2


def is_told_shape(areas, pieces, points):
    """Whether areas, pieces and points are told as a shape is."""
    if not isinstance(areas, tuple) or not all([is_told_area(area) for area in areas]):
        return False
    if not isinstance(pieces, tuple) or not all([is_told_piece(piece) for piece in pieces]):
        return False
    return are_told_corners(points)


def told_size(areas, pieces, points):
    """How many sides, pieces and points are told together."""
    return sum([len(ring) for rings in areas for ring in rings]) + len(pieces) + len(points)


def told_point(corner):
    """The point for which a told corner stands."""
    if len(corner) == 2:
        return (corner[0], corner[1], 1)
    return corner


def told_points(corners):
    """The points for which told corners stand."""
    return tuple([told_point(corner) for corner in corners])


def told_form(areas, pieces, points):
    """The least form of the joint of told areas, each filled by itself, and of told pieces and points."""
    sides, ring_marks = [], []
    for index, rings in enumerate(areas):
        told = [side for ring in rings for side in ring_sides(told_points(ring)) if side[0] != side[1]]
        sides.extend(told)
        ring_marks.extend([1 << index] * len(told))
    ring_count = len(sides)
    ends = [told_points(piece) for piece in pieces]
    sides.extend([piece for piece in ends if piece[0] != piece[1]])
    ring_marks.extend([0] * (len(sides) - ring_count))
    dots = [*told_points(points), *[piece[0] for piece in ends if piece[0] == piece[1]]]
    web = Web(sides, dots)
    filled = flooded(web, [marks_of(cover, ring_marks) for cover in web.covering])
    told_dots = {point: True for point in dots}
    return form_of(
        web,
        [spot in told_dots for spot in web.spots],
        [any([side >= ring_count for side in cover]) for cover in web.covering],
        [bits != 0 for bits in filled],
    )
