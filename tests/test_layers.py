"""Layers: points 10.1 to 10.7, and what 0.24 says of areas that add up."""

import itertools
import random
import unittest
from fractions import Fraction

from tests.helpers import (
    EMPTY, FRAME, HUGE, MAPS, NO_INTEGERS, NO_POINTS, NO_SHAPES, POSTS, RAILS, ROAD, SQUARE, WELL, exact, led, led_shape,
    raised, random_told, told,
)
from tests.test_measures import GREAT, HOLE, MIX
from tests.test_nets import way
from wherebase.draw.drawings import Drawing
from wherebase.errors import InvalidArcs, InvalidLayer, InvalidNumber, InvalidOperation, InvalidShape, UnknownName
from wherebase.measure.measures import area_of
from wherebase.net.layers import (
    MAX_NAMES, arc_flaws, arcs, covered, dissolved, double, fault, is_division, is_fault, is_layer, layer_of,
    neighbours, refined, rerouted,
)
from wherebase.net.nets import outline, threads
from wherebase.shape.overlays import common, joint, less
from wherebase.shape.shapes import Shape, area, body, border, dots, empty, line, lines, place

LOTS = {"west": area((0, 0), (2, 0), (2, 4), (0, 4)), "east": area((2, 0), (4, 0), (4, 4), (2, 4))}
RING, SMALL = way((0, 0), (9, 0), (0, 9), (0, 0)), way((1, 1), (2, 1), (1, 2), (1, 1))
FAR = way((20, 0), (29, 0), (20, 9), (20, 0))
NINE = {letter: area((k, 0), (k + 1, 0), (k + 1, 1), (k, 1)) for k, letter in enumerate("abcdefghi")}
EIGHT = {name: NINE[name] for name in "abcdefgh"}
LARGE = {"rails": RAILS, "posts": POSTS}
SPLIT = {"big": area(*[(k, k * k) for k in range(120)]), "large": area(*[(k, k * k + 1) for k in range(120)])}
NO_LAYERS = (
    *[value for value in NO_SHAPES if value != {}], SQUARE, [("a", SQUARE)], {"A": SQUARE}, {"": SQUARE}, {1: SQUARE},
    {None: SQUARE},
    {"a": None}, {"a": SQUARE.form}, {"a": SQUARE, "b": 3}, {("a",): SQUARE}, {"a" * 21: SQUARE}, {"a1": SQUARE},
)


def strip(left, right):
    return area((left, 0), (right, 0), (right, 4), (left, 4))


def led_layer(numbers, layer):
    return {name: led_shape(numbers, shape) for name, shape in layer.items()}


def random_layer(rows, plain=False):
    numbers = rows.choice(MAPS)
    layer = {}
    for name in rows.sample(["a", "b", "c", "dd", "e"], rows.choice([1, 2, 3])):
        shape = led_shape(numbers, Shape(*random_told(rows)))
        layer[name] = body(shape) if plain else shape
    return {name: shape for name, shape in layer.items() if shape.areas or not plain}


def size_of(layer):
    return sum(len(shape) for shape in layer.values())


class LayersTest(unittest.TestCase):
    def test_is_layer(self):
        for value in ({}, LOTS, NINE, {"a" * 20: EMPTY}, LARGE, {"z": GREAT}):
            self.assertIs(is_layer(value), True)
        for value in NO_LAYERS:
            self.assertIs(is_layer(value), False, value)
        self.assertEqual(MAX_NAMES, 8)

    def test_covered(self):
        self.assertEqual(covered({}), EMPTY)
        self.assertEqual(covered(LOTS), SQUARE)
        self.assertEqual(covered({"a": ROAD, "b": WELL, "c": EMPTY}), ROAD)
        rows = random.Random(50)
        for _ in range(25):
            layer = random_layer(rows)
            self.assertEqual(covered(layer), joint(*layer.values()))

    def test_double(self):
        self.assertEqual(double({}), EMPTY)
        self.assertEqual(double(LOTS), EMPTY)
        self.assertEqual(double({"a": SQUARE, "b": area((3, 3), (5, 3), (5, 5), (3, 5))}),
            area((3, 3), (4, 3), (4, 4), (3, 4)))
        self.assertEqual(double({"a": SQUARE, "b": outline(SQUARE)}), EMPTY)
        self.assertEqual(double({"a": SQUARE, "b": SQUARE}), SQUARE)
        self.assertEqual(double({"a": SQUARE, "b": ROAD, "c": WELL}), common(SQUARE, ROAD))
        self.assertEqual(double({"a": line((0, 0), (4, 4)), "b": line((0, 4), (4, 0))}), WELL)
        self.assertEqual(double({"a": line((0, 0), (4, 0)), "b": line((4, 0), (8, 0))}), EMPTY)

    def test_random_double(self):
        rows = random.Random(51)
        for _ in range(25):
            layer = random_layer(rows)
            shapes = [layer[name] for name in sorted(layer)]
            drawing = Drawing(*shapes)
            cells = (*drawing.corners, *drawing.edges, *range(1, len(drawing.faces)))
            chosen = tuple(cell for cell in cells if drawing.places(cell).count("inside") > 1)
            self.assertEqual(double(layer), drawing.closed(chosen))

    def test_areas_that_add_up(self):
        layer = {"a": strip(0, 2), "b": strip(2, 3), "c": strip(3, 4)}
        self.assertEqual(sum(area_of(shape)[0] for shape in layer.values()), 16)
        self.assertIs(is_division(layer, SQUARE), True)
        moved = {**layer, "c": strip(4, 5)}
        self.assertEqual((double(moved), sum(area_of(shape)[0] for shape in moved.values())), (EMPTY, 16))
        self.assertIs(is_division(moved, SQUARE), False)


class FaultsTest(unittest.TestCase):
    def test_division(self):
        for layer, shape in (
            (LOTS, SQUARE), ({}, EMPTY), ({"a": EMPTY}, EMPTY), ({"a": FRAME, "b": HOLE}, SQUARE),
            ({"a": SQUARE, "b": outline(SQUARE)}, SQUARE),
            ({"a": line((0, 0), (4, 0)), "b": line((4, 0), (8, 0))}, line((0, 0), (8, 0))), ({"a": MIX}, MIX),
        ):
            self.assertIs(is_division(layer, shape), True)
            self.assertIsNone(fault(layer, shape))
            self.assertIs(is_fault(layer, shape, None), True)
            self.assertIs(is_fault(layer, shape, ("gap", (), (2, 2, 1))), False)

    def test_is_fault(self):
        both = {"a": SQUARE, "b": area((2, 2), (6, 2), (6, 6), (2, 6)), "c": ROAD}
        for layer, shape, value, expected in (
            ({"a": FRAME}, SQUARE, ("gap", (), (2, 2, 1)), True), ({"a": FRAME}, SQUARE, ("gap", (), (1, 1, 1)), False),
            ({"a": FRAME}, SQUARE, ("gap", (), (9, 9, 1)), False), ({"a": FRAME}, SQUARE, ("gap", ("a",), (2, 2, 1)), False),
            (LOTS, FRAME, ("beyond", ("east",), (5, 4, 2)), True), (LOTS, FRAME, ("beyond", ("west",), (5, 4, 2)), False),
            (LOTS, FRAME, ("beyond", ("east",), (3, 2, 1)), False), (LOTS, FRAME, ("beyond", (), (5, 4, 2)), False),
            (LOTS, FRAME, ("beyond", ("east", "west"), (2, 2, 1)), False),
            (LOTS, FRAME, ("beyond", ("west",), (2, 2, 1)), True),
            (LOTS, FRAME, ("beyond", ("north",), (5, 4, 2)), False), (LOTS, FRAME, ("beyond", ("east",), (9, 9, 1)), False),
            (both, SQUARE, ("double", ("a", "b"), (3, 3, 1)), True),
            (both, SQUARE, ("double", ("b", "a"), (3, 3, 1)), False),
            (both, SQUARE, ("double", ("a", "b"), (2, 3, 1)), False),
            (both, SQUARE, ("double", ("a", "c"), (2, 2, 1)), True),
            (both, SQUARE, ("double", ("b", "c"), (2, 2, 1)), False),
            (both, SQUARE, ("double", ("a", "a"), (3, 3, 1)), False),
            (both, SQUARE, ("double", ("a",), (3, 3, 1)), False),
            (both, SQUARE, ("double", ("a", "b", "c"), (3, 3, 1)), False),
            (both, SQUARE, ("double", ("a", "d"), (3, 3, 1)), False), (both, SQUARE, None, False),
            (LOTS, SQUARE, None, True),
        ):
            self.assertIs(is_fault(layer, shape, value), expected, value)

    def test_values_that_are_no_faults(self):
        layer = {"a": FRAME, "b": ROAD}
        wrong = [("gap", (), point) for point in NO_POINTS if point != (2, 2, 1)]
        wrong += [("gap", [], (2, 2, 1)), ["gap", (), (2, 2, 1)], ("gap", ()), ("gap", (), (2, 2, 1), 0),
            ("Gap", (), (2, 2, 1))]
        wrong += [("double", (name, "b"), (0, 2, 1)) for name in NO_SHAPES] + [("beyond", (name,),
            (-1, 2, 1)) for name in (*NO_SHAPES, ["b"], {"b": 1})]
        wrong += [(word, (), (2, 2, 1)) for word in NO_SHAPES] + [("beyond", "b", (-1, 2, 1)), ("beyond", ["b"], (-1, 2, 1))]
        wrong += [("gap", (), (True, 2, 1)), ("gap", (), (2, 2))]
        wrong += [(word, ("b",), (-1, 2, 1)) for word in (*NO_SHAPES, "double", "gap", "Beyond", "")]
        wrong += [("double", ("a", "b"), point) for point in NO_POINTS] + [("beyond", ("b",), point) for point in NO_POINTS]
        for value in (*wrong, *[value for value in NO_SHAPES if value is not None], *NO_POINTS):
            self.assertIs(is_fault(layer, SQUARE, value), False, value)
        self.assertIs(is_fault(layer, SQUARE, ("beyond", ("b",), (-1, 2, 1))), True)

    def test_random_faults(self):
        rows = random.Random(52)
        words = set()
        for _ in range(80):
            layer, shape = random_layer(rows), EMPTY
            shape = rows.choice([covered(layer), rows.choice(list(layer.values())),
                led_shape(rows.choice(MAPS), Shape(*random_told(rows)))])
            if size_of(layer) + len(shape) > 200:
                continue
            found = fault(layer, shape)
            divides = double(layer) == EMPTY and covered(layer) == shape and not self.has_double_points(layer)
            self.assertEqual(found is None, divides)
            self.assertIs(is_division(layer, shape), divides)
            self.assertIs(is_fault(layer, shape, found), True)
            self.assertIs(is_fault(layer, shape, None), found is None)
            if found is not None:
                words.add(found[0])
                self.check_fault(layer, shape, found)
        self.assertEqual(words, {"double", "gap", "beyond"})

    def has_double_points(self, layer):
        drawing = Drawing(*layer.values())
        cells = (*drawing.corners, *drawing.edges, *range(len(drawing.faces)))
        return any(drawing.places(cell).count("inside") > 1 for cell in cells)

    def check_fault(self, layer, shape, told):
        word, names, point = told
        if word == "double":
            self.assertLess(names[0], names[1])
            self.assertEqual([place(layer[name], point) for name in names], ["inside", "inside"])
        elif word == "gap":
            self.assertEqual((names, point in shape, [name for name in layer if point in layer[name]]), ((), True, []))
        else:
            self.assertTrue(point in layer[names[0]] and point not in shape)


class RefinedTest(unittest.TestCase):
    def test_refined(self):
        low = area((0, 0), (5, 0), (5, 1), (0, 1))
        found = refined(LOTS, {"low": low})
        self.assertEqual(list(found), [("", "low"), ("east", ""), ("east", "low"), ("west", ""), ("west", "low")])
        self.assertEqual(found[("", "low")], area((4, 0), (5, 0), (5, 1), (4, 1)))
        self.assertEqual(found[("west", "")], area((0, 1), (2, 1), (2, 4), (0, 4)))
        self.assertEqual(found[("east", "low")], area((2, 0), (4, 0), (4, 1), (2, 1)))
        self.assertEqual(refined({}, {}), {})
        self.assertEqual(refined(LOTS, {}), {("east", ""): LOTS["east"], ("west", ""): LOTS["west"]})
        self.assertEqual(refined({}, {"a": MIX, "b": ROAD, "c": EMPTY}), {("", "a"): FRAME})
        self.assertEqual(refined({"same": SQUARE}, {"same": SQUARE}), {("same", "same"): SQUARE})

    def test_random_refined(self):
        rows = random.Random(53)
        for _ in range(25):
            layer, other = random_layer(rows), random_layer(rows)
            if size_of(layer) + size_of(other) > 200:
                continue
            expected = {}
            for a, b in itertools.product(layer, other):
                expected[(a, b)] = body(common(layer[a], other[b]))
            for a in layer:
                expected[(a, "")] = body(less(layer[a], *other.values()))
            for b in other:
                expected[("", b)] = body(less(other[b], *layer.values()))
            found = refined(layer, other)
            self.assertEqual(found, {pair: shape for pair, shape in expected.items() if shape})
            self.assertEqual(list(found), sorted(found))


class DissolvedTest(unittest.TestCase):
    def test_dissolved(self):
        self.assertEqual(dissolved(LOTS, {"east": "all", "west": "all"}), {"all": SQUARE})
        self.assertEqual(dissolved(LOTS, {"east": "west", "west": "east", "north": "lost"}),
            {"west": LOTS["east"], "east": LOTS["west"]})
        self.assertEqual(dissolved({}, {"a": "b"}), {})
        self.assertEqual(dissolved({}, {}), {})
        groups = {name: "odd" if k % 2 else "even" for k, name in enumerate("abcdefghi")}
        self.assertEqual(list(dissolved(EIGHT, groups)), ["even", "odd"])

    def test_random_dissolved(self):
        rows = random.Random(54)
        for _ in range(25):
            layer = random_layer(rows)
            groups = {name: rows.choice(["x", "y"]) for name in ("a", "b", "c", "dd", "e")}
            found = dissolved(layer, groups)
            self.assertEqual(list(found), sorted({groups[name] for name in layer}))
            for group, shape in found.items():
                self.assertEqual(shape, joint(*[layer[name] for name in layer if groups[name] == group]))

    def test_double_points_of_dissolved(self):
        whole = {"a": strip(0, 1), "b": strip(1, 2), "c": strip(2, 4)}
        for groups in itertools.product("xyz", repeat=3):
            one = dissolved(whole, dict(zip("abc", groups)))
            self.assertIs(is_division(one, SQUARE), True)
        first = {"a": line((0, 0), (1, 0)), "b": line((1, 0), (2, 0)), "c": dots((1, 0))}
        self.assertIs(is_division(first, line((0, 0), (2, 0))), True)
        self.assertIs(is_division(dissolved(first, {"a": "x", "b": "x", "c": "c"}), line((0, 0), (2, 0))), False)


class NeighboursTest(unittest.TestCase):
    def test_neighbours(self):
        self.assertEqual(neighbours(LOTS), {("east", "west"): line((2, 0), (2, 4))})
        self.assertEqual(neighbours({"a": FRAME, "b": HOLE, "c": SQUARE}),
            {("a", "b"): border(HOLE), ("a", "c"): border(SQUARE)})
        # shapes that touch in a point, and lines, have no lines of borders in common
        self.assertEqual(neighbours({"a": SQUARE, "b": area((4, 4), (5, 4), (4, 5)), "c": outline(SQUARE), "d": ROAD,
            "e": EMPTY}), {})
        self.assertEqual(neighbours({}), {})

    def test_random_neighbours(self):
        rows = random.Random(55)
        for _ in range(30):
            layer = random_layer(rows)
            found = neighbours(layer)
            expected = {}
            for a, b in itertools.combinations(sorted(layer), 2):
                one, other = border(layer[a]), border(layer[b])
                if len(one) + len(other) <= 200 and lines(common(one, other)):
                    expected[(a, b)] = lines(common(one, other))
            self.assertEqual(found, expected)
            self.assertEqual(list(found), sorted(found))

    def test_neighbours_by_arcs(self):
        layer = {"a": strip(0, 1), "b": strip(1, 2), "c": strip(2, 4), "d": area((0, 4), (4, 4), (4, 6), (0, 6)),
            "e": area((9, 9), (10, 9), (9, 10))}
        for pair, shape in neighbours(layer).items():
            between = [one for one in arcs(layer) if {one[1], one[2]} == {(pair[0],), (pair[1],)}]
            self.assertEqual(shape, joint(*[line(*one[0]) for one in between]))
        self.assertEqual(list(neighbours(layer)), [("a", "b"), ("a", "d"), ("b", "c"), ("b", "d"), ("c", "d")])


class ArcsTest(unittest.TestCase):
    def test_arcs(self):
        self.assertEqual(arcs(LOTS), (
            (way((2, 0), (0, 0), (0, 4), (2, 4)), (), ("west",)), (way((2, 0), (2, 4)), ("west",), ("east",)),
            (way((2, 0), (4, 0), (4, 4), (2, 4)), ("east",), ()),
        ))
        self.assertEqual(arcs({}), ())
        self.assertEqual(arcs({"a": SQUARE, "b": SQUARE}), ((way((0, 0), (0, 4), (4, 4), (4, 0), (0, 0)), (), ("a", "b")),))
        frame = arcs({"a": FRAME})
        self.assertEqual([told[1:] for told in frame], [((), ("a",)), (("a",), ())])

    def test_random_arcs(self):
        rows = random.Random(56)
        for _ in range(40):
            layer = random_layer(rows, plain=True)
            found = arcs(layer)
            self.assertEqual(list(found), sorted(found))
            rims = [border(shape) for shape in layer.values()]
            if sum(map(len, rims)) <= 200:
                self.assertEqual(tuple(told[0] for told in found), threads(joint(*rims)))
            shapes = [layer[name] for name in sorted(layer)]
            drawing = Drawing(*shapes) if shapes else None
            for told, left, right in found:
                faces = drawing.faces_beside((min(told[:2]), max(told[:2])))
                if told[0] > told[1]:
                    faces = faces[::-1]
                names = [tuple(name for name,
                    word in zip(sorted(layer), drawing.places(face)) if word == "inside") for face in faces]
                self.assertEqual([left, right], names)
            if sum(len(told[0]) - 1 for told in found) <= 200:
                self.assertEqual(arc_flaws(found), ())
                self.assertEqual(layer_of(found), layer)
                turned = tuple((told[::-1], right, left) for told, left, right in found[::-1])
                self.assertEqual(layer_of(turned), layer)
                cut = tuple((told[k:k + 2], left, right) for told, left, right in found for k in range(len(told) - 1))
                self.assertEqual(list(layer_of(cut).items()), sorted(layer.items()))

    def test_faces_with_several_walks(self):
        island = {"a": FRAME, "b": area((9, 2, 4), (11, 2, 4), (2, 3)), "sea": area((-9, -9), (9, -9), (9, 9), (-9, 9))}
        self.assertEqual(layer_of(arcs(island)), island)
        self.assertEqual(layer_of(((RING, ("a",), ()), (SMALL, (), ("a",)))),
            {"a": Shape((((RING[:3], SMALL[:3])),), (), ())})
        # around each corner the names agree, but not around the whole face
        self.assertEqual(arc_flaws(((RING, ("a",), ()), (SMALL, ("b",), ()))), ("faces",))
        self.assertEqual(arc_flaws(((RING, ("a",), ()), (SMALL, ("b",), ("a",)))), ())

    def test_maps(self):
        layer = {"a": FRAME, "b": area((3, 3), (6, 3), (6, 6), (3, 6)), "c": HOLE}
        for numbers in MAPS:
            image = led_layer(numbers, layer)
            self.assertEqual(layer_of(arcs(image)), image)
            self.assertEqual(double(image), led_shape(numbers, double(layer)))
            self.assertEqual(refined(image, led_layer(numbers, LOTS)),
                {pair: led_shape(numbers, shape) for pair, shape in refined(layer, LOTS).items()})
            self.assertEqual(neighbours(image), led_layer(numbers, neighbours(layer)))
            self.assertIs(is_division(image, led_shape(numbers, covered(layer))), False)
            self.assertIs(is_division(led_layer(numbers, LOTS), led_shape(numbers, SQUARE)), True)
            self.assertEqual(is_fault(image, led_shape(numbers, SQUARE), ("double", ("a", "b"), led(numbers, (7, 7, 2)))),
                True)


class ArcFlawsTest(unittest.TestCase):
    def test_form(self):
        right = (RING, ("a",), ())
        wrong = [right, [right], ((RING, ("a",)),), ((RING, ("a",), (), ()),), ([RING, ("a",), ()],),
            ((RING, ("a",), ("a",)),), ((RING, (), ()),)]
        wrong += [((RING, ["a"], ()),), ((RING, "a", ()),), ((RING, ("b", "a"), ()),), ((RING, ("a", "a"), ()),),
            ((RING, ("A",), ()),), ((RING, (1,), ()),)]
        wrong += [((RING, ("a",), (None,)),), ((list(RING), ("a",), ()),), ((RING[:1], ("a",), ()),), (((), ("a",), ()),),
            ((way((0, 0), (0, 0)), ("a",), ()),)]
        wrong += [((way((0, 0), (1, 1), (1, 1), (2, 2)), ("a",), ()),), ((((0, 0), (1, 1)), ("a",), ()),), (right, None),
            ((RING, ("a",), [()]),)]
        wrong += [((((0, 0, 1), point), ("a",), ()),) for point in NO_POINTS if point != (0, 0)]
        wrong += [((((0, 0, 1), (1, 1, 1)), (name,), ()),) for name in NO_SHAPES if name != "shape"]
        for value in (*wrong, *[value for value in NO_SHAPES if value != ()]):
            self.assertEqual(arc_flaws(value), ("form",), value)
            self.assertIsInstance(raised(layer_of, value), InvalidArcs)
        self.assertEqual(arc_flaws(()), ())
        self.assertEqual(layer_of(()), {})

    def test_meets(self):
        name = (("a",), ())
        for ways in (
            [way((0, 0), (4, 4)), way((0, 4), (4, 0))], [way((0, 0), (4, 0)), way((2, 0), (2, 4))],
            [way((0, 0), (4, 0), (4, 4), (2, -4))],
            [way((0, 0), (4, 0)), way((0, 0), (4, 0))], [way((0, 0), (4, 0)), way((4, 0), (0, 0))],
            [way((0, 0), (4, 0), (0, 0))],
            [way((0, 0), (4, 0)), way((2, 0), (6, 0))], [way((0, 0), (4, 0), (2, 0))], [RING, way((3, 0), (4, 1))],
            [RING, RING],
        ):
            value = tuple((told, *name) for told in ways)
            self.assertEqual(arc_flaws(value), ("meets",))
            self.assertIsInstance(raised(layer_of, value), InvalidArcs)

    def test_faces_and_outside(self):
        for value, expected in (
            (((RING, ("a",), ()),), ()), (((RING, (), ("a",)),), ("outside",)), (((RING, ("a",), ("b",)),), ("outside",)),
            (((way((0, 0), (1, 1)), ("a",), ()),), ("faces", "outside")),
            (((way((0, 0), (1, 1), (2, 0)), ("a",), ("b",)),), ("faces", "outside")),
            (((RING, ("a",), ()), (SMALL, ("b",), ("c",))), ("faces",)),
            (((RING, ("a",), ()), (way((1, 1), (2, 2)), ("a",), ("b",))), ("faces",)),
            (((RING, ("a",), ()), (FAR, ("b",), ())), ()),
            (((RING, ("a",), ()), (FAR, ("b",), ("c",))), ("faces", "outside")),
            (((RING[:3], ("a",), ()), (RING[2:], ("b",), ())), ("faces",)),
            (((RING[:3], ("a",), ()), (RING[2:], ("a",), ())), ()),
            (((RING[:3], ("a",), ()), (RING[:1:-1], (), ("a",))), ()),
            (((RING, ("a",), ()), (way((9, 0), (20, 0)), ("b",), ())), ("faces", "outside")),
        ):
            self.assertEqual(arc_flaws(value), expected)
            if expected:
                self.assertIsInstance(raised(layer_of, value), InvalidArcs)
            else:
                self.assertIsNone(raised(layer_of, value))

    def test_great_numbers(self):
        for numbers in MAPS:
            a, b, c, d = numbers[:4]
            for value, expected in ((((RING, ("a",), ()), (SMALL, ("b",), ("a",))), ()),
                (((RING, ("a",), ()), (SMALL, ("b",), ())), ("faces",))):
                image = tuple((tuple(led(numbers, point) for point in told), left, right) for told, left, right in value)
                if a * d < b * c:
                    image = tuple((told, right, left) for told, left, right in image)
                self.assertEqual(arc_flaws(image), expected)

    def test_many_sides(self):
        corners = [(k, k * k) for k in range(200)]
        full = ((way(*corners, corners[0]), ("a",), ()),)
        self.assertEqual(arc_flaws(full), ())
        self.assertEqual(layer_of(full), {"a": area(*corners)})
        more = ((way(*corners, (150, 200 ** 2), corners[0]), ("a",), ()),)
        crossed = (*full, (way((0, 5), (9, 5)), (), ("a",)))
        for value in (more, crossed, ((way(*corners, (0, 100)), ("a",), ()), (RING, ("b",), ()))):
            self.assertEqual(raised(arc_flaws, value).limit, 200)
            self.assertEqual(raised(layer_of, value).limit, 200)
        self.assertEqual(arc_flaws((*more, None)), ("form",))
        self.assertIsInstance(raised(layer_of, (*more, None)), InvalidArcs)

    def test_nine_names(self):
        apart = {name: led_shape((1, 0, 0, 1, k, 0, 1), NINE[name]) for k, name in enumerate(NINE)}
        told = tuple((way(*[corner[:2] for corner in (*shape.areas[0][0], shape.areas[0][0][0])]), (name,), ()) for name,
            shape in apart.items())
        self.assertEqual(len(layer_of(told[:8])), 8)
        self.assertEqual(raised(layer_of, told).limit, 8)
        self.assertEqual(arc_flaws(told), ())
        turned = (*told[:8], (told[8][0], (), told[8][1]))
        self.assertIsInstance(raised(layer_of, turned), InvalidArcs)
        one = ((RING, tuple("abcdefghi"), ()),)
        self.assertEqual(raised(layer_of, one).limit, 8)


class ReroutedTest(unittest.TestCase):
    def test_rerouted(self):
        bent = rerouted(LOTS, 1, way((2, 0), (3, 2), (2, 4)))
        self.assertEqual(bent,
            {"west": area((0, 0), (2, 0), (3, 2), (2, 4), (0, 4)), "east": area((2, 0), (4, 0), (4, 4), (2, 4), (3, 2))})
        self.assertIs(is_division(bent, SQUARE), True)
        self.assertEqual(rerouted(LOTS, 1, way((2, 0), (2, 1), (2, 4))), LOTS)
        wide = rerouted(LOTS, 2, way((2, 0), (9, 0), (9, 4), (2, 4)))
        self.assertEqual((area_of(wide["east"]), wide["west"]), ((28, 1), LOTS["west"]))
        ring = rerouted({"a": SQUARE}, 0, way((0, 0), (0, 9), (9, 9), (0, 0)))
        self.assertEqual(ring, {"a": area((0, 0), (9, 9), (0, 9))})

    def test_random_rerouted(self):
        rows = random.Random(57)
        count = 0
        for _ in range(150):
            layer = random_layer(rows, plain=True)
            found = arcs(layer)
            if not found:
                continue
            index = rows.randrange(len(found))
            elder, left, right = found[index]
            nudges = [(Fraction(rows.randint(-2, 2), 9), Fraction(rows.randint(-2, 2), 9)) for _ in elder[1:-1]]
            inner = [told(x + dx, y + dy) for (x, y), (dx, dy) in zip(map(exact, elder[1:-1]), nudges)]
            changed = (*found[:index], ((elder[0], *inner, elder[-1]), left, right), *found[index + 1:])
            if arc_flaws(changed) != ():
                self.assertIsInstance(raised(rerouted, layer, index, changed[index][0]), InvalidArcs)
                continue
            image = rerouted(layer, index, changed[index][0])
            self.assertEqual(image, layer_of(changed))
            count += 1
            self.assertEqual(bool(double(image)), bool(double(layer)))
            if left and right:
                self.assertEqual(covered(image), covered(layer))
        self.assertGreater(count, 10)

    def test_errors_in_their_order(self):
        right = way((2, 0), (3, 2), (2, 4))
        for value in NO_LAYERS:
            self.assertIsInstance(raised(rerouted, value, None, None), InvalidLayer)
        for layer in ({"a": ROAD}, {"a": EMPTY}, {"a": MIX}, {**NINE, "j": WELL}, {**SPLIT, "j": WELL}):
            self.assertIsInstance(raised(rerouted, layer, None, None), InvalidOperation)
        self.assertEqual(raised(rerouted, NINE, None, None).limit, 8)
        self.assertEqual(raised(rerouted, SPLIT, None, None).limit, 200)
        for value in (*NO_INTEGERS, -1, 3, HUGE):
            error = raised(rerouted, LOTS, value, None)
            self.assertIsInstance(error, InvalidNumber)
            self.assertIs(error.value, value)
        wrong = [right[:2], right[1:], right[::-1], list(right), way((2, 0)), way((2, 0), (2, 0), (2, 4)), (), None, 3,
            "way", ((2, 0), (2, 4))]
        wrong += [((2, 0, 1), point, (2, 4, 1)) for point in NO_POINTS]
        wrong += [way((2, 0), (5, 2), (2, 4)), way((2, 0), (4, 0), (2, 4)), way((2, 0), (0, 0), (2, 4)),
            way((2, 0), (3, 3), (1, 3), (3, 1), (2, 4))]
        for value in wrong:
            self.assertIsInstance(raised(rerouted, LOTS, 1, value), InvalidArcs, value)
        # a closed arc begins where it did
        for value in (way((4, 0), (0, 0), (0, 4), (4, 4), (4, 0)), way((0, 0), (0, 4), (4, 4), (4, 0))):
            self.assertIsInstance(raised(rerouted, {"a": SQUARE}, 0, value), InvalidArcs)
        long = ((2, 0, 1), *[led((1, 0, 0, 1, 0, 0, 50), (101 + k % 2, k)) for k in range(1, 199)], (2, 4, 1))
        self.assertEqual(raised(rerouted, LOTS, 1, long).limit, 200)
        self.assertIsNone(raised(rerouted, LOTS, 1, (long[0], *long[10:-1], long[-1])))


class WrongLayersTest(unittest.TestCase):
    def test_wrong_layers(self):
        many = {**NINE, "rails": RAILS, "posts": POSTS}
        for value in NO_LAYERS:
            for call in (covered, double, neighbours, arcs):
                self.assertIsInstance(raised(call, value), InvalidLayer)
            for args in ((value, LOTS), (LOTS, value), (value, value), (value, many), (many, value)):
                self.assertIsInstance(raised(refined, *args), InvalidLayer)
            for other in (SQUARE, None):
                self.assertIsInstance(raised(fault, value, other), InvalidLayer)
                self.assertIsInstance(raised(is_division, value, other), InvalidLayer)
                self.assertIsInstance(raised(is_fault, value, other, None), InvalidLayer)
            self.assertIsInstance(raised(dissolved, value, {}), InvalidLayer)
            self.assertIsInstance(raised(dissolved, value, None), InvalidLayer)
        for value in NO_SHAPES:
            for layer in (LOTS, many):
                self.assertIsInstance(raised(fault, layer, value), InvalidShape)
                self.assertIsInstance(raised(is_division, layer, value), InvalidShape)
                self.assertIsInstance(raised(is_fault, layer, value, 3), InvalidShape)

    def test_too_many(self):
        many = {**NINE, "rails": RAILS, "posts": POSTS}
        for layer, limit in ((NINE, 8), (many, 8), (LARGE, 200), ({**EIGHT, "h": GREAT}, 200)):
            for call in (covered, double, neighbours):
                self.assertEqual(raised(call, layer).limit, limit)
            for other in (LOTS, {}):
                self.assertEqual(raised(refined, layer, other).limit, limit)
                self.assertEqual(raised(refined, other, layer).limit, limit)
            for call in (fault, is_division):
                self.assertEqual(raised(call, layer, SQUARE).limit, limit)
            for value in (None, 3):
                self.assertEqual(raised(is_fault, layer, SQUARE, value).limit, limit)
            self.assertEqual(raised(dissolved, layer, {name: "x" for name in layer}).limit, limit)
        self.assertEqual(raised(refined, {"a": RAILS}, {"a": POSTS}).limit, 200)
        self.assertEqual(raised(fault, {"a": RAILS}, POSTS).limit, 200)
        self.assertEqual(raised(refined, NINE, LARGE).limit, 8)
        self.assertEqual(raised(refined, LARGE, NINE).limit, 8)
        self.assertEqual([raised(arcs, layer).limit for layer in (NINE, SPLIT)], [8, 200])
        for call in (covered, double, neighbours, arcs):
            self.assertIsNone(raised(call, EIGHT))
        self.assertEqual(len(refined(EIGHT, LOTS)), 10)

    def test_arcs_of_layers_that_are_not_plain(self):
        for layer in ({"a": ROAD}, {"a": SQUARE, "b": EMPTY}, {"a": MIX}, {"a": joint(SQUARE, ROAD)},
            {"a": joint(SQUARE, dots((9, 9)))},
            {**NINE, "z": WELL}, LARGE):
            self.assertIsInstance(raised(arcs, layer), InvalidOperation)

    def test_groups(self):
        for value in (None, True, 3, "east", (), [("east", "x"), ("west", "x")], {"east": "x", "west": None},
            {"east": "X", "west": "x"}, {"east": "x", "west": "x", 3: "x"}, {"east": "x", "west": "x", "a": ""}, SQUARE):
            for layer in (LOTS, NINE):
                self.assertIsInstance(raised(dissolved, layer, value), InvalidLayer)
        for groups, name in (({}, "east"), ({"east": "x"}, "west"), ({"west": "x", "north": "x"}, "east")):
            error = raised(dissolved, LOTS, groups)
            self.assertIsInstance(error, UnknownName)
            self.assertEqual(error.name, name)
        self.assertEqual(raised(dissolved, NINE, {name: "x" for name in "abdefghi"}).name, "c")
        self.assertEqual(raised(dissolved, LARGE, {}).name, "posts")

    def test_arguments_stay(self):
        layer, groups = dict(LOTS), {"east": "all", "west": "all"}
        found = dissolved(layer, groups)
        found["more"] = empty()
        refined(layer, layer)[("a", "b")] = SQUARE
        neighbours(layer).clear()
        layer_of(arcs(layer)).clear()
        self.assertEqual((layer, groups), (LOTS, {"east": "all", "west": "all"}))
        self.assertEqual(dissolved(layer, groups), {"all": SQUARE})


if __name__ == "__main__":
    unittest.main()
