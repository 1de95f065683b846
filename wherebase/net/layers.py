"""Layers: shapes with names, their faults, their arcs, and how they are changed."""

from wherebase.errors import InvalidArcs, InvalidLayer, InvalidNumber, InvalidOperation, TooMany, UnknownName
from wherebase.base.numbers import is_integer, is_name
from wherebase.base.points import is_point
from wherebase.net.threads import threads_of
from wherebase.net.told_arcs import are_told_arcs, flaws_in, is_bent_way, names_of_rooms, told_sides
from wherebase.plane.faces import chosen_point
from wherebase.plane.forms import form_of, pieces_of
from wherebase.plane.webs import Web
from wherebase.shape.shapes import Shape, check_shapes, check_told_size, closure_of, place, shape_of, sheet_of

MAX_NAMES = 8


def is_layer(value):
    """Whether the value is a dict from names to shapes."""
    return isinstance(value, dict) and all([is_name(name) and isinstance(value[name], Shape) for name in value])


def covered(layer):
    """The joint of all shapes of a layer."""
    _check_layers(layer)
    _, sheet = _drawn(layer)
    return closure_of(sheet, [[bits != 0 for bits in row] for row in sheet.taken()])


def double(layer):
    """The closure of the set of the points that are inside two or more shapes of a layer."""
    _check_layers(layer)
    names, sheet = _drawn(layer)
    return closure_of(sheet, _double_cells(sheet, names))


def is_division(layer, shape):
    """Whether a layer divides a shape."""
    return fault(layer, shape) is None


def fault(layer, shape):
    """Any fault of a layer for a shape, or None if the layer divides it."""
    _check_layers(layer)
    check_shapes(shape)
    names, sheet = _drawn(layer, shape)
    point = chosen_point(sheet.web, _double_cells(sheet, names))
    if point is not None:
        both = [name for name in names if place(layer[name], point) == "inside"]
        return ("double", (both[0], both[1]), point)
    rows = sheet.taken()
    # the bit of the shape comes behind those of the layer
    alone = 1 << len(names)
    point = chosen_point(sheet.web, [[bits == alone for bits in row] for row in rows])
    if point is not None:
        return ("gap", (), point)
    point = chosen_point(sheet.web, [[0 < bits < alone for bits in row] for row in rows])
    if point is not None:
        return ("beyond", ([name for name in names if point in layer[name]][0],), point)
    return None


def is_fault(layer, shape, value):
    """Whether the value is a fault of a layer for a shape, or None if there is none."""
    found = fault(layer, shape)
    if found is None:
        return value is None
    if not isinstance(value, tuple) or len(value) != 3:
        return False
    word, names, point = value
    if not is_point(point) or not isinstance(names, tuple):
        return False
    if not all([is_name(name) and name in layer for name in names]):
        return False
    if word == "double":
        are_both = len(names) == 2 and names[0] < names[1]
        return are_both and all([place(layer[name], point) == "inside" for name in names])
    if word == "gap":
        return names == () and point in shape and not any([point in layer[name] for name in layer])
    return word == "beyond" and len(names) == 1 and point in layer[names[0]] and point not in shape


def refined(layer, other_layer):
    """The bodies of the common parts of the shapes of two layers, and of what only one layer covers."""
    _check_layers(layer, other_layer)
    names, other_names = _names_of(layer), _names_of(other_layer)
    shapes = [layer[name] for name in names] + [other_layer[name] for name in other_names]
    sheet = sheet_of(*shapes)
    rooms = {}
    for room, (bits, _) in enumerate(sheet.room_bits):
        ones, others = _named(names, bits), _named(other_names, bits >> len(names))
        pairs = [(one, other) for one in ones for other in others]
        if not others:
            pairs = [(one, "") for one in ones]
        elif not ones:
            pairs = [("", other) for other in others]
        for pair in pairs:
            rooms.setdefault(pair, []).append(room)
    return {pair: _body_of(sheet.web, rooms[pair]) for pair in sorted(list(rooms))}


def dissolved(layer, groups):
    """The layer that has for each group the joint of the shapes of its names."""
    _check_layers(layer)
    if not isinstance(groups, dict) or not all([is_name(name) and is_name(groups[name]) for name in groups]):
        raise InvalidLayer("no dict from names to names")
    for name in sorted(list(layer)):
        if name not in groups:
            raise UnknownName(name)
    names, sheet = _drawn(layer)
    masks = {}
    for index, name in enumerate(names):
        masks[groups[name]] = masks.get(groups[name], 0) | 1 << index
    rows = sheet.taken()
    found = {}
    for group in sorted(list(masks)):
        found[group] = closure_of(sheet, [[bits & masks[group] != 0 for bits in row] for row in rows])
    return found


def neighbours(layer):
    """The lines of the common part of the borders of each two shapes of a layer."""
    _check_layers(layer)
    names, sheet = _drawn(layer)
    ties = {}
    for tie, (_, border) in enumerate(sheet.tie_bits):
        held = _named(names, border)
        for pair in [(one, other) for one in held for other in held if one < other]:
            ties.setdefault(pair, []).append(tie)
    return {pair: shape_of(((), pieces_of(sheet.web, ties[pair]), ())) for pair in sorted(list(ties))}


def arcs(layer):
    """The ascending tuple of the arcs of a plain layer."""
    _check_layers(layer)
    if not all([_is_plain(layer[name]) for name in layer]):
        raise InvalidOperation("the layer is not plain")
    names, sheet = _drawn(layer)
    web = sheet.web
    found = []
    for way in threads_of(pieces_of(web, list(range(len(web.ties))))):
        # each end of an edge is a knot here, since rings bend at their corners
        half = web.half_from(web.spot_at[way[0]], web.spot_at[way[1]])
        left, right = sheet.room_bits[web.rooms_left[half]][0], sheet.room_bits[web.rooms_left[half ^ 1]][0]
        found.append((way, _named(names, left), _named(names, right)))
    return tuple(sorted(found))


def arc_flaws(value):
    """The ascending tuple of the words for what is wrong with told arcs."""
    if not are_told_arcs(value):
        return ("form",)
    return flaws_in(_web_of(value), value)


def layer_of(arcs):
    """The layer that right told arcs tell."""
    if not are_told_arcs(arcs):
        raise InvalidArcs("no told arcs")
    web = _web_of(arcs)
    if flaws_in(web, arcs):
        raise InvalidArcs("the told arcs are not right")
    rooms = {}
    for room, told in enumerate(names_of_rooms(web, arcs)):
        for name in [one for names in told for one in names]:
            rooms.setdefault(name, []).append(room)
    _check_count(rooms)
    return {name: _body_of(web, rooms[name]) for name in sorted(list(rooms))}


def rerouted(layer, index, way):
    """The layer whose arc with an index has another way."""
    told = arcs(layer)
    if not is_integer(index) or not 0 <= index < len(told):
        raise InvalidNumber(index)
    elder, left, right = told[index]
    if not is_bent_way(way) or way[0] != elder[0] or way[-1] != elder[-1]:
        raise InvalidArcs("no way between the ends of the arc")
    return layer_of(told[:index] + ((way, left, right),) + told[index + 1:])


def _check_layers(*values):
    """Refuses values of which one is no layer."""
    for value in values:
        if not is_layer(value):
            raise InvalidLayer("no layer")


def _check_count(names):
    if len(names) > MAX_NAMES:
        raise TooMany(MAX_NAMES)


def _names_of(layer):
    """The names of a layer, ascending, if they are not too many."""
    _check_count(layer)
    return sorted(list(layer))


def _drawn(layer, *shapes):
    """The ascending names of a layer, and the sheet of its shapes in their order, with some shapes behind them."""
    names = _names_of(layer)
    told = [layer[name] for name in names] + list(shapes)
    return names, sheet_of(*told)


def _named(names, bits):
    """Those of some names of which the bits are set, from the lowest bit on."""
    return tuple([name for index, name in enumerate(names) if bits >> index & 1])


def _double_cells(sheet, names):
    """For each cell of a sheet whether it is inside two or more of the first forms."""
    every = (1 << len(names)) - 1
    rows = [[inside & every for inside, _ in row] for row in (sheet.spot_bits, sheet.tie_bits, sheet.room_bits)]
    return [[bits & (bits - 1) != 0 for bits in row] for row in rows]


def _body_of(web, rooms):
    """The shape that is the closure of some bounded rooms."""
    rooms_in = [False] * web.room_count
    for room in rooms:
        rooms_in[room] = True
    return shape_of(form_of(web, [False] * len(web.spots), [False] * len(web.ties), rooms_in))


def _is_plain(shape):
    return shape.areas != () and shape.pieces == () and shape.points == ()


def _web_of(arcs):
    """The web of the sides of told arcs, if they are not too many."""
    sides = told_sides(arcs)
    check_told_size(len(sides))
    return Web(sides, [])
