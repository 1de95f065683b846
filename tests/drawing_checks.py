"""Looks at a drawing by the words of the document, corner by corner, without the program's own webs."""

import itertools

from tests.helpers import exact
from wherebase.base.points import is_between, line_meet, pieces_meet, sorted_round
from wherebase.draw.drawings import is_drawing, told_drawing
from wherebase.shape.shapes import place


def sides_of(shape):
    """The sides of the rings and pieces of a shape."""
    found = [(ring[k - 1], ring[k]) for rings in shape.areas for ring in rings for k in range(len(ring))]
    return found + list(shape.pieces)


def corners_of(shapes):
    """The corners of the drawing of some shapes [0.14]."""
    sides = [side for shape in shapes for side in sides_of(shape)]
    found = {end for side in sides for end in side} | {point for shape in shapes for point in shape.points}
    for one, other in itertools.combinations(sides, 2):
        if line_meet(*one, *other) is not None:
            found |= set(pieces_meet(*one, *other))
    return tuple(sorted(found))


def edges_of(shapes, corners):
    """The edges of the drawing of some shapes."""
    found = set()
    for shape in shapes:
        for one, two in sides_of(shape):
            chain = sorted([corner for corner in corners if is_between(corner, one, two)], key=exact)
            found |= {(min(pair), max(pair)) for pair in zip(chain, chain[1:])}
    return tuple(sorted(found))


def walks_of(corners, edges):
    """All walks [4.1], each by its least tuple."""
    around = {corner: [] for corner in corners}
    for one, two in edges:
        around[one].append(two)
        around[two].append(one)
    around = {corner: sorted_round(corner, tuple(ends)) for corner, ends in around.items()}
    found = [(corner,) for corner in corners if not around[corner]]
    left = {pair for edge in edges for pair in (edge, edge[::-1])}
    while left:
        first = pair = min(left)
        walk = []
        while not walk or pair != first:
            left.remove(pair)
            walk.append(pair[0])
            ends = around[pair[1]]
            pair = (pair[1], ends[ends.index(pair[0]) - 1])
        found.append(min(tuple(walk[k:] + walk[:k]) for k in range(len(walk))))
    return sorted(found)


def double_area(walk):
    points = [exact(corner) for corner in walk]
    return sum(ax * by - ay * bx for (ax, ay), (bx, by) in zip(points, points[1:] + points[:1]))


def is_within(walk, point):
    """Whether a point lies strictly inside of a closed walk that does not pass it."""
    x, y = exact(point)
    crossed = 0
    for k in range(len(walk)):
        (ax, ay), (bx, by) = exact(walk[k - 1]), exact(walk[k])
        if (ay > y) != (by > y) and ax + (y - ay) * (bx - ax) / (by - ay) > x:
            crossed += 1
    return crossed % 2 == 1


def face_around(drawing, walk):
    """The face that holds the part of a walk: the least one whose outer walk goes around it, of another part."""
    part = part_of(drawing, walk[0])
    around = []
    for index, walks in enumerate(drawing.faces):
        for outer in walks:
            if double_area(outer) > 0 and outer[0] not in part and is_within(outer, walk[0]):
                around.append((double_area(outer), index))
    return min(around)[1] if around else 0


def part_of(drawing, corner):
    """All corners that are connected with a corner."""
    part = {corner}
    growing = True
    while growing:
        more = {end for edge in drawing.edges if part & set(edge) for end in edge}
        growing = not more <= part
        part |= more
    return part


def connected_count(corners, edges):
    group = {corner: corner for corner in corners}

    def least(corner):
        while group[corner] != corner:
            corner = group[corner]
        return corner

    for one, two in edges:
        group[least(one)] = least(two)
    return len({least(corner) for corner in corners})


def check_drawing(test, drawing):
    """Fails the test if the drawing is not as the document tells it."""
    shapes = drawing.shapes
    corners = corners_of(shapes)
    test.assertEqual(drawing.corners, corners)
    test.assertEqual(drawing.edges, edges_of(shapes, corners))
    test.assertEqual(drawing.parts, connected_count(corners, drawing.edges))
    test.assertEqual(len(corners) - len(drawing.edges) + len(drawing.faces), 1 + drawing.parts)
    walks = walks_of(corners, drawing.edges)
    test.assertEqual(sorted(walk for face in drawing.faces for walk in face), walks)
    test.assertEqual(list(drawing.faces[1:]), sorted(drawing.faces[1:]))
    for index, face in enumerate(drawing.faces):
        test.assertEqual(list(face), sorted(face))
        test.assertEqual(len([walk for walk in face if double_area(walk) > 0]), 1 if index else 0)
        for walk in face:
            if double_area(walk) <= 0:
                test.assertEqual(face_around(drawing, walk), index)
    check_cells(test, drawing)


def check_cells(test, drawing):
    cells = (*drawing.corners, *drawing.edges, *range(len(drawing.faces)))
    paper = told_drawing(drawing)
    test.assertEqual(list(paper[3]), list(cells))
    for cell in cells:
        point = drawing.point_in(cell)
        test.assertEqual(drawing.cell_of(point), cell)
        test.assertEqual(drawing.places(cell), tuple(place(shape, point) for shape in drawing.shapes))
        test.assertEqual(paper[3][cell], drawing.places(cell))
    for edge in drawing.edges:
        left, right = drawing.faces_beside(edge)
        test.assertIn(edge, directed_edges(drawing.faces[left]))
        test.assertIn(edge[::-1], directed_edges(drawing.faces[right]))
    for corner in drawing.corners:
        check_around(test, drawing, corner)
    test.assertIs(is_drawing(drawing.shapes, paper), True)


def directed_edges(face):
    return {(walk[k - 1], walk[k]) for walk in face for k in range(len(walk))}


def check_around(test, drawing, corner):
    ends = tuple(edge[1 - edge.index(corner)] for edge in drawing.edges if corner in edge)
    expected = sorted_round(corner, ends)
    found = drawing.around(corner)
    if ends:
        first = expected.index(min(ends))
        expected = expected[first:] + expected[:first]
    test.assertEqual(found, expected)
