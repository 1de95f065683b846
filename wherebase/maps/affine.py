"""Maps as tuples of seven integers (a, b, c, d, e, f, v), for callers that have checked them."""

from math import gcd

from wherebase.base.geometry import crossed, lowest_point


def least_numbers(a, b, c, d, e, f, v):
    """The numbers of a map without a common divisor but 1; v is not 0."""
    shared = gcd(a, b, c, d, e, f, v)
    if v < 0:
        shared = -shared
    return tuple([number // shared for number in (a, b, c, d, e, f, v)])


def joined(first, second):
    """The least numbers of the map that does what one map does, and then what a second one does."""
    a, b, c, d, e, f, v = first
    p, q, r, s, t, u, w = second
    return least_numbers(
        p * a + q * c, p * b + q * d, r * a + s * c, r * b + s * d, p * e + q * f + t * v, r * e + s * f + u * v, v * w
    )


def turned_back(numbers):
    """The least numbers of the map that leads all points back."""
    a, b, c, d, e, f, v = numbers
    return least_numbers(d * v, -b * v, -c * v, a * v, b * f - d * e, c * e - a * f, a * d - b * c)


def numbers_by(points, images):
    """The least numbers of the map that leads three points to three other ones; neither lie on one line."""
    pulls = []
    for index, point in enumerate(points):
        # the line through both other points is 0 there, so that this image only tells where this point goes
        ruler = crossed(points[index - 2], points[index - 1])
        weight = images[index - 2][2] * images[index - 1][2] * point[2]
        pulls.append([weight * number for number in ruler])
    rows = [[sum([image[row] * pull[place] for image, pull in zip(images, pulls)]) for place in range(3)]
            for row in range(3)]
    (a, b, e), (c, d, f), (_, _, v) = rows
    return least_numbers(a, b, c, d, e, f, v)


def led_point(numbers, point):
    """The point to which a map leads a point."""
    a, b, c, d, e, f, v = numbers
    x, y, w = point
    return lowest_point(a * x + b * y + e * w, c * x + d * y + f * w, v * w)


def led_form(numbers, form):
    """The least form to which a map leads a least form."""
    areas, pieces, points = form
    is_turned = numbers[0] * numbers[3] < numbers[1] * numbers[2]
    led_areas = []
    for outer, *holes in areas:
        led_holes = [_led_ring(numbers, hole, is_turned) for hole in holes]
        led_areas.append((_led_ring(numbers, outer, is_turned), *sorted(led_holes)))
    ends = [(led_point(numbers, one), led_point(numbers, two)) for one, two in pieces]
    led_pieces = [(min(one, two), max(one, two)) for one, two in ends]
    led_points = [led_point(numbers, point) for point in points]
    return (tuple(sorted(led_areas)), tuple(sorted(led_pieces)), tuple(sorted(led_points)))


def _led_ring(numbers, ring, is_turned):
    """A ring after a map, from its least corner on; a map that turns the plane over turns its way round."""
    corners = [led_point(numbers, corner) for corner in ring]
    if is_turned:
        corners = corners[::-1]
    first = corners.index(min(corners))
    return tuple(corners[first:] + corners[:first])
