"""Nets of lines: outlines, threads, strokes, loose edges and sections."""

from wherebase.net.threads import is_way, threads_of
from wherebase.net.trails import trail_count, trails_of
from wherebase.plane.forms import pieces_of, room_areas
from wherebase.plane.groups import Groups
from wherebase.shape.shapes import check_shapes, closure_of, shapes_of, sheet_of


def outline(shape):
    """The joint of the rings, the lines and the lone points of a shape."""
    sheet = sheet_of(shape)
    web = sheet.web
    return closure_of(sheet, ([True] * len(web.spots), [True] * len(web.ties), [False] * web.room_count))


def threads(shape):
    """The ascending tuple of the threads of a shape."""
    check_shapes(shape)
    return threads_of(shape.pieces)


def stroke_count(shape):
    """The least number of strokes that draw the lines of a shape."""
    check_shapes(shape)
    return trail_count(shape.pieces)


def strokes(shape):
    """Any tuple of as few strokes as can be that draw the lines of a shape."""
    check_shapes(shape)
    return trails_of(shape.pieces)


def are_strokes(shape, value):
    """Whether the value is a tuple of as few strokes as can be that draw the lines of a shape."""
    check_shapes(shape)
    if not isinstance(value, tuple) or not all([is_way(stroke) for stroke in value]):
        return False
    passed = [(min(one, two), max(one, two)) for stroke in value for one, two in zip(stroke, stroke[1:])]
    return len(value) == trail_count(shape.pieces) and tuple(sorted(passed)) == shape.pieces


def loose(shape):
    """The closure of the edges of the drawing of a shape that have the same face at both sides."""
    sheet = sheet_of(shape)
    web = sheet.web
    chosen = [web.rooms_left[2 * tie] == web.rooms_left[2 * tie + 1] for tie in range(len(web.ties))]
    return closure_of(sheet, ([False] * len(web.spots), chosen, [False] * web.room_count))


def sections(shape, other_shape):
    """The sections of a shape that is cut by the outline of another one, ascending by their least forms."""
    sheet = sheet_of(shape, other_shape)
    web = sheet.web
    spots, ties = sheet.outlined()
    areas = room_areas(web)
    # no edge lies in the body of the shape but those of the other one, so each room there is a section
    forms = [((areas[room],), (), ()) for room in areas if sheet.room_bits[room][0] & 1]
    forms.extend([((), pieces_of(web, part), ()) for part in _line_parts(sheet, spots, ties)])
    forms.extend([((), (), (point,)) for point in shape.points if spots[web.spot_at[point]] == 1])
    return shapes_of(forms)


def _line_parts(sheet, spots, ties):
    """The edges on the lines of the first form of a sheet, parted where the outline of the second one lies."""
    web = sheet.web
    free = [ties[tie] == 1 and sheet.tie_bits[tie][1] & 1 == 0 for tie in range(len(web.ties))]
    groups = Groups(len(web.ties))
    for spot, halves in enumerate(web.leaving):
        held = [half // 2 for half in halves if free[half // 2]]
        if spots[spot] == 1:
            for tie in held[1:]:
                groups.unite(held[0], tie)
    found = {}
    for tie in range(len(web.ties)):
        if free[tie]:
            found.setdefault(groups.least(tie), []).append(tie)
    return list(found.values())
