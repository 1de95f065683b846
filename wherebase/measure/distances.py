"""The nearest points of two shapes that have no common point."""

from wherebase.base.geometry import lowest_point, way
from wherebase.shape.shapes import mark_points


def nearest_points(shape, other_shape):
    """A point of each of two shapes without a common point, neither of them empty, as near as can be."""
    best = _nearest_mark(shape, other_shape)
    other_best = _nearest_mark(other_shape, shape)
    # squares of distances are pairs that need not be in lowest terms
    if other_best[0] * best[1] < best[0] * other_best[1]:
        _, _, point, other = other_best
        return (foot_of(point, other), point)
    _, _, point, other = best
    return (point, foot_of(point, other))


def foot_of(point, piece):
    """The point of a piece that is nearest to a point; the ends of the piece can be equal."""
    one, two = piece
    dx, dy = way(one, two)
    along, length = _along(point, piece)
    if along <= 0:
        return one
    if along >= length:
        return two
    # `along` and `length` have the factor one[2] * two[2] of the way along the piece in common
    bottom = length * one[2] * two[2]
    return lowest_point(one[0] * two[2] * length + along * dx, one[1] * two[2] * length + along * dy, bottom)


def _nearest_mark(shape, other_shape):
    """The mark of one shape that is nearest to a piece of another one: the square, the mark and the piece.

    The square is told by its top and its bottom.
    """
    best = None
    pieces = [*other_shape.sides, *other_shape.pieces, *[(point, point) for point in other_shape.points]]
    for mark in mark_points(shape):
        for piece in pieces:
            top, bottom = _square_to(mark, piece)
            if best is None or top * best[1] < best[0] * bottom:
                best = (top, bottom, mark, piece)
    return best


def _along(point, piece):
    """How far along a piece the point on its line lies that is nearest to a point, and the length of the piece.

    Both are told by integers in the same unit.
    """
    one, two = piece
    dx, dy = way(one, two)
    px, py = way(one, point)
    return (dx * px + dy * py) * two[2], (dx * dx + dy * dy) * point[2]


def _square_to(point, piece):
    """The square of the distance of a point to a piece, as a top and a bottom."""
    one, two = piece
    along, length = _along(point, piece)
    if along <= 0 or along >= length:
        end = one if along <= 0 else two
        dx, dy = way(end, point)
        return dx * dx + dy * dy, (end[2] * point[2]) ** 2
    dx, dy = way(one, two)
    px, py = way(one, point)
    return (dx * py - dy * px) ** 2, (dx * dx + dy * dy) * (one[2] * point[2]) ** 2
