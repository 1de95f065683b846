"""Values and checks that several tests use."""

from fractions import Fraction

from wherebase.base.points import point_of
from wherebase.shape.overlays import less
from wherebase.shape.shapes import Shape, area, dots, empty, line

HUGE = 7 ** 350

SQUARE = area((0, 0), (4, 0), (4, 4), (0, 4))
FRAME = less(SQUARE, area((1, 1), (3, 1), (3, 3), (1, 3)))
ROAD = line((-1, 2), (5, 2))
WELL = dots((2, 2))
EMPTY = empty()
# 120 and 81 pieces: each can be drawn, both together cannot
RAILS = Shape((), tuple(((0, k), (9, k)) for k in range(120)), ())
POSTS = Shape((), tuple(((k + 20, 0), (k + 20, 9)) for k in range(81)), ())

NO_POINTS = (
    None, True, 0, 1, "", "point", (), (0, 0), (0, 0, 1, 1), [0, 0, 1], (0, 0, 0), (0, 0, -1), (2, 4, 2), (0, 0, 2),
    (True, 0, 1), (0, True, 1), (0, 0, True), ("0", 0, 1), (0, None, 1), ((0,), 0, 1), ((0, 0, 1), (1, 1, 1)), {},
    {0: 0}, SQUARE, (0, 0, HUGE), (2 * HUGE, 4 * HUGE, 2),
)
NO_SHAPES = (None, True, 0, "shape", (), [], {}, (0, 0, 1), SQUARE.form, ((), (), ()), [SQUARE], (SQUARE,))
NO_INTEGERS = (None, True, False, "1", (1,), [1], {}, (1, 1), SQUARE)


def exact(point):
    """The coordinates of a point, as fractions."""
    return Fraction(point[0], point[2]), Fraction(point[1], point[2])


def told(x, y):
    """The point with fractions as coordinates."""
    x, y = Fraction(x), Fraction(y)
    return point_of(x.numerator * y.denominator, y.numerator * x.denominator, x.denominator * y.denominator)


def raised(call, *args, **more):
    """The error that a call raises, or None."""
    try:
        call(*args, **more)
    except Exception as error:
        return error
    return None


def led(numbers, corner):
    """A told corner after the map with the numbers a, b, c, d, e, f, v."""
    a, b, c, d, e, f, v = numbers
    x, y, w = corner if len(corner) == 3 else (*corner, 1)
    return point_of(a * x + b * y + e * w, c * x + d * y + f * w, v * w)


def led_told(numbers, areas, pieces, points):
    """Areas, pieces and points that tell a shape, after a map."""
    return (
        tuple(tuple(tuple(led(numbers, corner) for corner in ring) for ring in rings) for rings in areas),
        tuple(tuple(led(numbers, end) for end in piece) for piece in pieces),
        tuple(led(numbers, point) for point in points),
    )


def led_shape(numbers, shape):
    """A shape after a map."""
    return Shape(*led_told(numbers, *shape.form))


# maps with bottoms greater than 1, with great numbers, and one that turns the plane over
MAPS = (
    (1, 0, 0, 1, 0, 0, 1),
    (2, 1, -1, 3, 5, -7, 6),
    (0, 1, 1, 0, 3, 4, 7),
    (-3, 2, 5, 4, HUGE, -HUGE, 9),
    (HUGE, 1, -2, HUGE + 1, 3, 4, 2 * HUGE + 1),
)


def random_told(random):
    """Told areas, pieces and points on a small grid, so that much of it meets."""
    size = random.choice([2, 3, 4, 6])

    def corner():
        return (random.randint(0, size), random.randint(0, size))

    def ring():
        return tuple(corner() for _ in range(random.randint(3, 6)))

    areas = tuple(tuple(ring() for _ in range(random.randint(1, 2))) for _ in range(random.choice([0, 1, 1, 2])))
    pieces = tuple((corner(), corner()) for _ in range(random.choice([0, 0, 1, 2, 5])))
    points = tuple(corner() for _ in range(random.choice([0, 0, 1, 3])))
    return areas, pieces, points


def _lies_on(x, y, start, end):
    (ax, ay), (bx, by) = start, end
    if (bx - ax) * (y - ay) != (by - ay) * (x - ax):
        return False
    return min(ax, bx) <= x <= max(ax, bx) and min(ay, by) <= y <= max(ay, by)


def holds_told(areas, pieces, points, point):
    """Whether a point lies in what is told by pairs; None where it lies on the side of a told ring."""
    x, y = exact(point)
    if any((x, y) == corner for corner in points):
        return True
    if any(_lies_on(x, y, start, end) for start, end in pieces):
        return True
    for rings in areas:
        for ring in rings:
            if any(_lies_on(x, y, ring[k - 1], ring[k]) for k in range(len(ring))):
                return None
    return any(_is_filled(rings, x, y) for rings in areas)


def _is_filled(rings, x, y):
    crossed = 0
    for ring in rings:
        for k in range(len(ring)):
            (ax, ay), (bx, by) = ring[k - 1], ring[k]
            if (ay > y) != (by > y) and Fraction((y - ay) * (bx - ax), by - ay) + ax > x:
                crossed += 1
    return crossed % 2 == 1
