"""Meets of places in two shapes, and the relations that they tell."""

from wherebase.errors import InvalidOperation
from wherebase.base.geometry import turn
from wherebase.base.numbers import is_integer
from wherebase.base.points import is_point
from wherebase.draw.drawings import MAX_SHAPES
from wherebase.plane.faces import chosen_point, triangle_in_room
from wherebase.plane.sheets import Sheet, place_at
from wherebase.shape.shapes import check_drawn, check_shapes, closure_of, sheet_of

PLACES = ("inside", "border", "outside")
RELATIONS = ("apart", "crosses", "enters", "equal", "holds", "meets", "overlaps", "touches", "within")


def nine(shape, other_shape):
    """The dimensions of the nine meets of two shapes."""
    return _nine_at(_dimensions(sheet_of(shape, other_shape)), 0, 1)


def relations(shape, other_shape):
    """The ascending tuple of the relations in which two shapes are."""
    return _relations_told(nine(shape, other_shape))


def is_related(shape, other_shape, name):
    """Whether two shapes are in a relation."""
    check_shapes(shape, other_shape)
    if name not in RELATIONS:
        raise InvalidOperation("no relation")
    return name in relations(shape, other_shape)


def relations_of(numbers):
    """The ascending tuple of the relations that a nine tells."""
    if not isinstance(numbers, tuple) or len(numbers) != 9 or numbers[8] != 2:
        raise InvalidOperation("no nine")
    if not all([is_integer(number) and -1 <= number <= 2 for number in numbers]):
        raise InvalidOperation("no nine")
    return _relations_told(numbers)


def has_pattern(shape, other_shape, pattern):
    """Whether the nine of two shapes fits a pattern."""
    check_shapes(shape, other_shape)
    if not isinstance(pattern, str) or len(pattern) != 9 or not all([sign in "012-+*" for sign in pattern]):
        raise InvalidOperation("no pattern")
    return all([_fits(number, sign) for number, sign in zip(nine(shape, other_shape), pattern)])


def nines(*shapes):
    """For each shape the tuple of its nines with each shape, by one drawing."""
    if not 1 <= len(shapes) <= MAX_SHAPES:
        raise InvalidOperation("one to eight shapes have nines")
    dimensions = _dimensions(sheet_of(*shapes))
    count = len(shapes)
    return tuple([tuple([_nine_at(dimensions, one, other) for other in range(count)]) for one in range(count)])


def witness(shape, other_shape, first_place, second_place):
    """Any witness of a meet, with one point more than the dimension of the meet, or None."""
    wanted = _wanted(shape, other_shape, first_place, second_place)
    sheet = sheet_of(shape, other_shape)
    web = sheet.web
    spots, ties, rooms = [_cells_at(row, wanted) for row in _rows_of(sheet)]
    if rooms:
        return triangle_in_room(web, rooms[0])
    if ties:
        start, end = web.ties[ties[0]]
        return (web.spots[start], web.spots[end])
    if spots:
        return (web.spots[spots[0]],)
    return None


def is_witness(shape, other_shape, first_place, second_place, value):
    """Whether the value is a witness of a meet."""
    wanted = _wanted(shape, other_shape, first_place, second_place)
    check_drawn(shape, other_shape)
    form = _witness_form(value)
    if form is None:
        return False
    # what the witness shows is just the inside of this form
    sheet = Sheet([shape.form, other_shape.form, form])
    shown = [bits for row in _rows_of(sheet) for bits in row if place_at(bits, 2) == 0]
    return all([(place_at(bits, 0), place_at(bits, 1)) == wanted for bits in shown])


def inside_point(shape, other_shape):
    """Any point that is inside both of two shapes, or None."""
    sheet = sheet_of(shape, other_shape)
    return chosen_point(sheet.web, [[inside == 3 for inside, _ in row] for row in _rows_of(sheet)])


def meet_shape(shape, other_shape, first_place, second_place):
    """The closure of a meet."""
    wanted = _wanted(shape, other_shape, first_place, second_place)
    if wanted == (2, 2):
        raise InvalidOperation("what is outside of both shapes is no shape")
    sheet = sheet_of(shape, other_shape)
    chosen = [[(place_at(bits, 0), place_at(bits, 1)) == wanted for bits in row] for row in _rows_of(sheet)]
    return closure_of(sheet, chosen)


def _rows_of(sheet):
    """The bits of the corners, the edges and the rooms of a sheet: row k is for cells of the dimension k."""
    return (sheet.spot_bits, sheet.tie_bits, sheet.room_bits)


def _dimensions(sheet):
    """A dict from the bits of all cells of a sheet to the greatest dimension of a cell with these bits."""
    found = {}
    for dimension, row in enumerate(_rows_of(sheet)):
        for bits in row:
            found[bits] = dimension
    return found


def _nine_at(dimensions, one, other):
    """The nine of the two forms with these indices."""
    numbers = [-1] * 9
    for bits, dimension in dimensions.items():
        index = 3 * place_at(bits, one) + place_at(bits, other)
        numbers[index] = max(numbers[index], dimension)
    return tuple(numbers)


def _relations_told(numbers):
    """The relations that a nine tells."""
    inside = numbers[0]
    dimension = max(numbers[:6])
    other_dimension = max(numbers[0], numbers[1], numbers[3], numbers[4], numbers[6], numbers[7])
    is_common = max(numbers[0], numbers[1], numbers[3], numbers[4]) >= 0
    is_within = max(numbers[2], numbers[5]) == -1
    is_holding = max(numbers[6], numbers[7]) == -1
    is_mixed = inside >= 0 and not is_within and not is_holding
    told = {
        "apart": not is_common,
        "crosses": is_mixed and inside < max(dimension, other_dimension),
        "enters": is_within and inside >= 0,
        "equal": is_within and is_holding,
        "holds": is_holding,
        "meets": is_common,
        "overlaps": is_mixed and inside == dimension == other_dimension,
        "touches": is_common and inside == -1,
        "within": is_within,
    }
    return tuple([name for name in RELATIONS if told[name]])


def _fits(number, sign):
    """Whether a number of a nine fits a sign of a pattern."""
    if sign == "*":
        return True
    if sign == "+":
        return number >= 0
    return sign == ("-" if number == -1 else str(number))


def _wanted(shape, other_shape, first_place, second_place):
    """The indices of two places, of arguments that are checked here."""
    check_shapes(shape, other_shape)
    for word in (first_place, second_place):
        if word not in PLACES:
            raise InvalidOperation("no place")
    return (PLACES.index(first_place), PLACES.index(second_place))


def _cells_at(row, wanted):
    """The indices of the cells of a row that have two places."""
    return [index for index, bits in enumerate(row) if (place_at(bits, 0), place_at(bits, 1)) == wanted]


def _witness_form(value):
    """The least form whose inside is what a witness shows, or None for a value that shows nothing."""
    if not isinstance(value, tuple) or not all([is_point(point) for point in value]):
        return None
    if len(value) == 1:
        return ((), (), value)
    if len(value) == 2 and value[0] != value[1]:
        return ((), ((min(value), max(value)),), ())
    if len(value) == 3 and turn(value[0], value[1], value[2]) != 0:
        return (((value,),), (), ())
    return None
