"""The words that tell a shape."""

from wherebase.text.words import point_word, told_point_of

_START = "start"
_PARTS = "parts"
_AREA = "area"
_PIECE = "piece"
_END = "end"


class ShapeWords:
    """What words tell of a shape that are taken one by one."""

    def __init__(self):
        self._areas = []
        self._pieces = []
        self._points = []
        # the rings of the area that is being told, and the points behind the last sign
        self._rings = []
        self._corners = []
        self._place = _START

    def take(self, word):
        """Takes the next word, and tells whether it can stand here; if it cannot, no other one may be taken."""
        point = told_point_of(word)
        if point is not None:
            return self._take_point(point)
        if self._place == _START:
            return self._go(_PARTS, word == "{")
        if self._place == _PARTS:
            self._rings, self._corners = [], []
            places = {"}": _END, "[": _AREA, "<": _PIECE}
            return self._go(places.get(word), word in places)
        if self._place == _AREA:
            return self._take_in_area(word)
        return self._place == _PIECE and self._take_in_piece(word)

    def is_whole(self):
        """Whether the words tell a shape, with none lacking."""
        return self._place == _END

    def outcome(self):
        """The areas, pieces and points that the words tell."""
        return tuple(self._areas), tuple(self._pieces), tuple(self._points)

    def _go(self, place, is_right):
        """Goes to another place if this is right, and tells whether it is."""
        if is_right:
            self._place = place
        return is_right

    def _take_point(self, point):
        if self._place == _PARTS:
            self._points.append(point)
            return True
        self._corners.append(point)
        return self._place == _AREA or self._place == _PIECE and len(self._corners) <= 2

    def _take_in_area(self, word):
        if word not in ("/", "]") or len(self._corners) < 3:
            return False
        self._rings.append(tuple(self._corners))
        self._corners = []
        if word == "]":
            self._areas.append(tuple(self._rings))
            self._place = _PARTS
        return True

    def _take_in_piece(self, word):
        if word != ">" or len(self._corners) != 2:
            return False
        self._pieces.append(tuple(self._corners))
        self._place = _PARTS
        return True


def shape_words(shape):
    """The list of the words of a shape."""
    words = ["{"]
    for rings in shape.areas:
        for index, ring in enumerate(rings):
            words.append("[" if index == 0 else "/")
            words.extend([point_word(corner) for corner in ring])
        words.append("]")
    for one, other in shape.pieces:
        words.extend(["<", point_word(one), point_word(other), ">"])
    words.extend([point_word(point) for point in shape.points])
    return [*words, "}"]
