"""Sheets: the webs of least forms, with the places of all cells in them."""

from wherebase.plane.webs import Web

PLACE_WORDS = ("inside", "border", "outside")


def ring_sides(ring):
    """The sides of a ring, each a pair of neighbouring corners."""
    return [(ring[index - 1], ring[index]) for index in range(len(ring))]


def flooded(web, flips):
    """For each room the bits that change on the way to it from the unbounded room.

    `flips` has for each edge the bits that change from one of its sides to the other one.
    """
    bits = [0] * web.room_count
    seen = [False] * web.room_count
    seen[0] = True
    waiting = [0]
    while waiting:
        room = waiting.pop()
        for half in web.borders[room]:
            beside = web.rooms_left[half ^ 1]
            if not seen[beside]:
                seen[beside] = True
                bits[beside] = bits[room] ^ flips[half // 2]
                waiting.append(beside)
    return bits


class Sheet:
    """The web of least forms, and the places of its cells in each of them.

    `spot_bits`, `tie_bits` and `room_bits` have for each cell a pair of integers: bit k of the first one
    tells whether the cell is inside of form k, bit k of the second one whether it is on its border.
    """

    def __init__(self, forms):
        sides, ring_marks, piece_marks = [], [], []
        points = []
        for index, (areas, pieces, dots) in enumerate(forms):
            rings = [side for area in areas for ring in area for side in ring_sides(ring)]
            sides.extend(rings)
            sides.extend(pieces)
            ring_marks.extend([1 << index] * len(rings) + [0] * len(pieces))
            piece_marks.extend([0] * len(rings) + [1 << index] * len(pieces))
            points.extend(dots)
        self.web = Web(sides, points)
        rings = [marks_of(cover, ring_marks) for cover in self.web.covering]
        pieces = [marks_of(cover, piece_marks) for cover in self.web.covering]
        bodies = flooded(self.web, rings)
        self.room_bits = [(body, 0) for body in bodies]
        self.tie_bits = []
        for tie, (ring, piece) in enumerate(zip(rings, pieces)):
            body = bodies[self.web.rooms_left[2 * tie]]
            self.tie_bits.append((body & ~ring | piece, ring))
        self.spot_bits = self._spots_placed(forms, bodies)

    def _spots_placed(self, forms, bodies):
        odd, lone = _knots_and_points(forms)
        found = []
        for spot, point in enumerate(self.web.spots):
            ring = held = 0
            for half in self.web.leaving[spot]:
                inside, border = self.tie_bits[half // 2]
                ring = ring | border
                held = held | inside
            # off the rings of a form, the body holds all rooms around a corner or none
            body = bodies[self.web.room_around(spot)] & ~ring
            border = ring | odd.get(point, 0) & ~body
            found.append(((body | held | lone.get(point, 0)) & ~border, border))
        return found

    def taken(self):
        """Three lists, of the corners, edges and rooms: for each cell the bits of the forms that hold it."""
        rows = (self.spot_bits, self.tie_bits, self.room_bits)
        return [[inside | border for inside, border in row] for row in rows]

    def outlined(self):
        """Two lists, of the corners and the edges: for each cell the bits of the forms whose outlines hold it."""
        web = self.web
        # a cell that is inside of a form and has a room of its body beside it lies within the body
        spots = [border | inside & ~self.room_bits[web.room_around(spot)][0]
                 for spot, (inside, border) in enumerate(self.spot_bits)]
        ties = [border | inside & ~self.room_bits[web.rooms_left[2 * tie]][0]
                for tie, (inside, border) in enumerate(self.tie_bits)]
        return spots, ties


def place_at(bits, index):
    """The index, among the words of places, of the place of a cell in one form."""
    inside, border = bits
    if inside >> index & 1:
        return 0
    if border >> index & 1:
        return 1
    return 2


def place_words(bits, count):
    """The places of a cell in the first forms."""
    return tuple([PLACE_WORDS[place_at(bits, index)] for index in range(count)])


def marks_of(cover, marks):
    """The marks that lie on an edge an odd number of times; in a least form none does so twice."""
    bits = 0
    for side in cover:
        bits = bits ^ marks[side]
    return bits


def _knots_and_points(forms):
    """Dicts from points to bits: the forms of which an odd number of pieces, or a lone point, lies there."""
    odd, lone = {}, {}
    for index, (_, pieces, dots) in enumerate(forms):
        for piece in pieces:
            for end in piece:
                odd[end] = odd.get(end, 0) ^ 1 << index
        for point in dots:
            lone[point] = lone.get(point, 0) | 1 << index
    return odd, lone
