"""Shapes: bounded closed sets of points, put together of points, sides and triangles."""

from wherebase.errors import InvalidPoint, InvalidShape, TooMany
from wherebase.base.points import is_point, is_side
from wherebase.plane.forms import form_of
from wherebase.plane.groups import Groups
from wherebase.plane.sheets import Sheet, ring_sides
from wherebase.plane.sweep import holders
from wherebase.plane.told import are_told_corners, is_told_area, is_told_shape, told_form, told_points, told_size
from wherebase.shape.flaws import flaws_of
from wherebase.shape.places import place_among

MAX_TOLD = 200


class Shape:
    """A shape, kept in its least form."""

    def __init__(self, areas, pieces, points):
        if not is_told_shape(areas, pieces, points):
            raise InvalidShape("no shape is told")
        check_told_size(told_size(areas, pieces, points))
        self._take_form(told_form(areas, pieces, points))

    def _take_form(self, form):
        """Makes this the shape of a least form; only for a shape that was just created."""
        self._form = form
        sides = [side for rings in form[0] for ring in rings for side in ring_sides(ring)]
        self._sides = tuple(sides)
        self._members = (*self._sides, *form[1], *form[2])

    @property
    def areas(self):
        """The areas of the least form."""
        return self._form[0]

    @property
    def pieces(self):
        """The pieces of the least form."""
        return self._form[1]

    @property
    def points(self):
        """The lone points."""
        return self._form[2]

    @property
    def form(self):
        """The least form: the tuple of areas, pieces and points."""
        return self._form

    @property
    def dimension(self):
        """2 with a body, otherwise 1 with lines, 0 with a point, -1 for the empty shape."""
        for index in range(3):
            if self._form[index] != ():
                return 2 - index
        return -1

    @property
    def sides(self):
        """The sides of all rings, in the directions of the rings."""
        return self._sides

    def __contains__(self, value):
        return is_point(value) and place_among(self._sides, self._form[1], self._form[2], value) != "outside"

    def __bool__(self):
        return bool(self._members)

    def __len__(self):
        return len(self._members)

    def __eq__(self, other):
        return isinstance(other, Shape) and self._form == other._form

    def __str__(self):
        areas, pieces, points = self._form
        return f"shape of {len(areas)} areas, {len(pieces)} pieces, {len(points)} points"


def shape_of(form):
    """The shape with a least form."""
    shape = Shape((), (), ())
    shape._take_form(form)
    return shape


def check_shapes(*values):
    """Refuses values of which one is no shape."""
    for value in values:
        if not isinstance(value, Shape):
            raise InvalidShape("no shape")


def check_told_size(count):
    """Refuses what is told by too many corners."""
    if count > MAX_TOLD:
        raise TooMany(MAX_TOLD)


def check_drawn(*shapes):
    """Refuses values of which one is no shape, and shapes that are together too large to be drawn."""
    check_shapes(*shapes)
    # the limit is the same as for what is told
    check_told_size(sum([len(shape) for shape in shapes]))


def sheet_of(*shapes):
    """The sheet of shapes that are drawn together."""
    check_drawn(*shapes)
    return Sheet([shape.form for shape in shapes])


def shapes_of(forms):
    """The tuple of the shapes with some least forms, ascending by these."""
    return tuple([shape_of(form) for form in sorted(forms)])


def mark_points(shape):
    """The corners of the rings, the ends of the pieces and the lone points of a shape, ascending."""
    found = {start: True for start, _ in shape.sides}
    for piece in shape.pieces:
        for end in piece:
            found[end] = True
    for point in shape.points:
        found[point] = True
    return tuple(sorted(list(found)))


def closure_of(sheet, chosen):
    """The shape that is the closure of chosen cells of a sheet.

    Three lists of truth values choose them: for the corners, the edges and the rooms.
    """
    return shape_of(form_of(sheet.web, *chosen))


def area(*corners):
    """The shape of one told ring, filled."""
    return filled(corners)


def filled(*rings):
    """The shape of told rings, filled together."""
    if not is_told_area(rings):
        raise InvalidShape("no rings are told")
    return Shape((rings,), (), ())


def line(*corners):
    """The joint of the sides between neighbouring told corners."""
    if not are_told_corners(corners) or len(corners) < 2:
        raise InvalidShape("no line is told")
    check_told_size(len(corners))
    return Shape((), tuple(zip(corners, corners[1:])), ())


def dots(*points):
    """The shape of told points."""
    return Shape((), (), points)


def empty():
    """The empty shape."""
    return Shape((), (), ())


def place(shape, point):
    """The place of a point in a shape: "inside", "border" or "outside"."""
    check_shapes(shape)
    if not is_point(point):
        raise InvalidPoint("no point")
    return place_among(shape.sides, shape.pieces, shape.points, point)


def border(shape):
    """The border of a shape: its rings as pieces, its other points as lone points."""
    check_shapes(shape)
    odd = [point for point, number in knots(shape) if number % 2 == 1]
    cuts = [[] for _ in shape.sides]
    # a knot on a ring is no knot of the border; a corner of a ring is one, also on the side of another ring
    bends = {start: True for start, _ in shape.sides}
    free = []
    for point, held in holders(list(shape.sides), odd):
        if not held:
            free.append(point)
        elif point in bends:
            for side in held:
                cuts[side].append(point)
    pieces = sorted([(min(one, two), max(one, two)) for row in cuts for one, two in zip(row, row[1:])])
    return shape_of(((), tuple(pieces), tuple(sorted(free))))


def body(shape):
    """The body of a shape."""
    check_shapes(shape)
    return shape_of((shape.areas, (), ()))


def lines(shape):
    """The lines of a shape."""
    check_shapes(shape)
    return shape_of(((), shape.pieces, ()))


def lone(shape):
    """The lone points of a shape."""
    check_shapes(shape)
    return shape_of(((), (), shape.points))


def parts(shape):
    """The connected parts of a shape, ascending by their least forms."""
    check_shapes(shape)
    owners = [index for index, rings in enumerate(shape.areas) for ring in rings for _ in ring]
    many = len(shape.areas)
    owners.extend([many + index for index in range(len(shape.pieces))])
    groups = Groups(many + len(shape.pieces))
    for _, held in holders(list(shape.sides) + list(shape.pieces), []):
        for index in held:
            groups.unite(owners[held[0]], owners[index])
    areas, pieces = {}, {}
    for index, told in enumerate(shape.areas):
        areas.setdefault(groups.least(index), []).append(told)
    for index, piece in enumerate(shape.pieces):
        pieces.setdefault(groups.least(many + index), []).append(piece)
    forms = [(tuple(areas.get(group, [])), tuple(pieces.get(group, [])), ()) for group in groups.all_least()]
    forms.extend([((), (), (point,)) for point in shape.points])
    return shapes_of(forms)


def area_shapes(shape):
    """The shapes of the single areas, in their order."""
    check_shapes(shape)
    return tuple([shape_of(((told,), (), ())) for told in shape.areas])


def without_holes(shape):
    """The joint of a shape and of all bounded connected parts of what is outside of it."""
    sheet = sheet_of(shape)
    rooms_in = [room > 0 for room in range(sheet.web.room_count)]
    return closure_of(sheet, ([True] * len(sheet.web.spots), [True] * len(sheet.web.ties), rooms_in))


def knots(shape):
    """The pairs of all knots and the numbers of pieces that end there, ascending."""
    check_shapes(shape)
    found = {}
    for piece in shape.pieces:
        for end in piece:
            found[end] = found.get(end, 0) + 1
    return tuple(sorted(list(found.items())))


def ring_flaws(ring):
    """The words of what keeps a told ring from being the outer ring of a least form."""
    if not are_told_corners(ring):
        raise InvalidShape("no told ring")
    check_told_size(len(ring))
    return flaws_of(told_points(ring))


def is_form(value):
    """Whether the value is the least form of a shape with a size of at most 200."""
    if not isinstance(value, tuple) or len(value) != 3:
        return False
    areas, pieces, points = value
    if not is_told_shape(areas, pieces, points) or told_size(areas, pieces, points) > MAX_TOLD:
        return False
    corners = [corner for rings in areas for ring in rings for corner in ring]
    if not all([is_point(corner) for corner in (*corners, *points)]) or not all([is_side(piece) for piece in pieces]):
        return False
    return told_form(areas, pieces, points) == value
