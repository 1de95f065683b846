"""Drawings: the corners, edges and faces that shapes make together."""

from wherebase.errors import InvalidCell, InvalidDrawing, InvalidOperation, InvalidShape
from wherebase.base.geometry import half_way
from wherebase.base.likeness import is_like
from wherebase.base.numbers import is_integer
from wherebase.base.points import check_points, is_point, is_side
from wherebase.plane.faces import faces_of, point_in_room, tie_with
from wherebase.plane.sheets import PLACE_WORDS, place_words
from wherebase.shape.shapes import check_shapes, closure_of, sheet_of

MAX_SHAPES = 8
MAX_SIZE = 200


class Drawing:
    """The drawing of one to eight shapes."""

    def __init__(self, *shapes):
        if not 1 <= len(shapes) <= MAX_SHAPES:
            raise InvalidShape("one to eight shapes make a drawing")
        self._shapes = shapes
        self._sheet = sheet_of(*shapes)
        self._web = self._sheet.web
        spots = self._web.spots
        self._corners = tuple(spots)
        self._edges = tuple([(spots[start], spots[end]) for start, end in self._web.ties])
        self._rooms, self._faces = faces_of(self._web)
        self._face_at = {room: face for face, room in enumerate(self._rooms)}

    @property
    def shapes(self):
        """The shapes, in their order."""
        return self._shapes

    @property
    def corners(self):
        """The corners, ascending."""
        return self._corners

    @property
    def edges(self):
        """The edges, ascending."""
        return self._edges

    @property
    def faces(self):
        """For each face the ascending tuple of its walks."""
        return self._faces

    @property
    def parts(self):
        """The number of connected parts of corners and edges."""
        return len(self._web.first_spots)

    def places(self, cell):
        """The places of a cell in the shapes."""
        if self._is_face(cell):
            return place_words(self._sheet.room_bits[self._rooms[cell]], len(self._shapes))
        if self._is_corner(cell):
            return place_words(self._sheet.spot_bits[self._web.spot_at[cell]], len(self._shapes))
        return place_words(self._sheet.tie_bits[self._tie_of(cell)], len(self._shapes))

    def cell_of(self, point):
        """The cell in which a point lies."""
        check_points(point)
        if point in self._web.spot_at:
            return point
        tie = tie_with(self._web, point)
        if tie is not None:
            return self._edges[tie]
        return self._face_at[self._web.room_of_point(point)]

    def point_in(self, cell):
        """Any point of a cell."""
        if self._is_face(cell):
            return point_in_room(self._web, self._rooms[cell])
        if self._is_corner(cell):
            return cell
        start, end = self._edges[self._tie_of(cell)]
        return half_way(start, end)

    def around(self, corner):
        """The neighbours of a corner, counter-clockwise, from the least one on."""
        if not self._is_corner(corner):
            raise InvalidCell("no corner of the drawing")
        web = self._web
        found = [web.head(half) for half in web.leaving[web.spot_at[corner]]]
        if not found:
            return ()
        first = found.index(min(found))
        return tuple([self._corners[spot] for spot in found[first:] + found[:first]])

    def faces_beside(self, edge):
        """The faces at the left and at the right of an edge."""
        tie = self._tie_of(edge)
        rooms = self._web.rooms_left
        return (self._face_at[rooms[2 * tie]], self._face_at[rooms[2 * tie + 1]])

    def cells_with(self, *places):
        """The cells with some places in the shapes; None stands for any place."""
        if len(places) != len(self._shapes):
            raise InvalidOperation("not one place for each shape")
        for word in places:
            if word is not None and word not in PLACE_WORDS:
                raise InvalidOperation("no place")
        wanted = [sum([1 << k for k, given in enumerate(places) if given == told]) for told in PLACE_WORDS]
        sheet = self._sheet
        corners = [corner for corner, bits in zip(self._corners, sheet.spot_bits) if _has_places(bits, wanted)]
        edges = [edge for edge, bits in zip(self._edges, sheet.tie_bits) if _has_places(bits, wanted)]
        faces = [face for face, room in enumerate(self._rooms) if _has_places(sheet.room_bits[room], wanted)]
        return (*corners, *edges, *faces)

    def closed(self, cells):
        """The shape that is the closure of the cells of a tuple."""
        if not isinstance(cells, tuple) or not all([self._is_bounded(cell) for cell in cells]):
            raise InvalidOperation("no tuple of bounded cells")
        web = self._web
        spots_in, ties_in = [False] * len(web.spots), [False] * len(web.ties)
        rooms_in = [False] * web.room_count
        for cell in cells:
            if self._is_face(cell):
                rooms_in[self._rooms[cell]] = True
            elif self._is_corner(cell):
                spots_in[web.spot_at[cell]] = True
            else:
                ties_in[self._tie_of(cell)] = True
        return closure_of(self._sheet, (spots_in, ties_in, rooms_in))

    def alone(self, *indices):
        """The drawing of the shapes with some indices, in the order told."""
        if not 1 <= len(indices) <= MAX_SHAPES:
            raise InvalidOperation("one to eight indices make a drawing")
        for index in indices:
            if not is_integer(index) or not 0 <= index < len(self._shapes):
                raise InvalidOperation("no index of a shape")
        picked = [self._shapes[index] for index in indices]
        return Drawing(*picked)

    def __len__(self):
        return len(self._shapes)

    def __eq__(self, other):
        return isinstance(other, Drawing) and self._shapes == other._shapes

    def __str__(self):
        counts = f"{len(self._corners)} corners, {len(self._edges)} edges, {len(self._faces)} faces"
        return f"drawing of {len(self._shapes)} shapes: {counts}, {len(self._web.first_spots)} parts"

    def _is_face(self, cell):
        return is_integer(cell) and 0 <= cell < len(self._faces)

    def _is_corner(self, cell):
        return is_point(cell) and cell in self._web.spot_at

    def _is_edge(self, cell):
        if not is_side(cell) or cell[0] not in self._web.spot_at or cell[1] not in self._web.spot_at:
            return False
        return (self._web.spot_at[cell[0]], self._web.spot_at[cell[1]]) in self._web.tie_at

    def _is_bounded(self, cell):
        """Whether the value is a cell other than face 0."""
        return self._is_face(cell) and cell > 0 or self._is_corner(cell) or self._is_edge(cell)

    def _tie_of(self, cell):
        if not self._is_edge(cell):
            raise InvalidCell("no such cell of the drawing")
        return self._web.tie_at[(self._web.spot_at[cell[0]], self._web.spot_at[cell[1]])]


def told_drawing(drawing):
    """A paper of a drawing: its corners, edges and faces, and the places of all its cells."""
    if not isinstance(drawing, Drawing):
        raise InvalidDrawing("no drawing")
    cells = list(drawing.corners) + list(drawing.edges) + list(range(len(drawing.faces)))
    return (drawing.corners, drawing.edges, drawing.faces, {cell: drawing.places(cell) for cell in cells})


def is_drawing(shapes, value):
    """Whether the value is the paper of the drawing of a tuple of shapes."""
    if not isinstance(shapes, tuple) or not 1 <= len(shapes) <= MAX_SHAPES:
        raise InvalidShape("no tuple of one to eight shapes")
    check_shapes(*shapes)
    return is_like(value, told_drawing(Drawing(*shapes)))


def _has_places(bits, wanted):
    """Whether a cell is inside, on the border and outside of those forms of which this is wanted."""
    inside, border = bits
    if inside & wanted[0] != wanted[0] or border & wanted[1] != wanted[1]:
        return False
    return (inside | border) & wanted[2] == 0
