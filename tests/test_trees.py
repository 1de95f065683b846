"""Boxes and trees of boxes: points 11.1 and 11.2."""

import random
import unittest
from math import ceil, floor

from tests.helpers import (
    EMPTY, FRAME, HUGE, MAPS, NO_INTEGERS, NO_SHAPES, ROAD, SQUARE, WELL, exact, led_shape, raised, random_told,
)
from tests.test_measures import GREAT, MIX, marks_of
from wherebase.errors import InvalidBox, InvalidNumber, InvalidOperation, InvalidShape, InvalidTree
from wherebase.maps.maps import same
from wherebase.shape.shapes import Shape, dots, line
from wherebase.tree.boxes import are_meeting, box_common, box_joint, box_of, is_box, side_apart
from wherebase.tree.trees import MAX_ENTRIES, Tree, form_flaws, is_right_form

LOW, HIGH, FAR = (0, 0, 2, 1), (1, 1, 3, 4), (6, 0, 7, 7)
FORM = ("node", (((0, 0, 3, 4), ("leaf", ((1, LOW), (2, HIGH)))), ((5, 0, 7, 7), ("leaf", ((4, FAR), (3, (5, 5, 5, 5)))))))
NO_BOXES = (
    *NO_SHAPES, SQUARE, (0, 0, 1), (0, 0, 1, 1, 1), [0, 0, 1, 1], (1, 0, 0, 1), (0, 1, 1, 0), (0, 0, 0, True),
    (False, 0, 1, 1), (0, 0, 1, "1"),
    (0, None, 1, 1), (0, 0, (1,), 1), (HUGE, 0, HUGE - 1, 1), ((0, 0), (1, 1)), "abcd", {0: 0, 1: 0, 2: 1, 3: 1}, Tree(),
    same(),
)
LEAF = ("leaf", ((1, LOW), (2, HIGH)))
OTHER = ("leaf", ((3, LOW), (4, HIGH)))
AROUND = (0, 0, 3, 4)


def random_box(rows, size=9):
    x, y = rows.randint(-size, size), rows.randint(-size, size)
    return (x, y, x + rows.randint(0, 3), y + rows.randint(0, 3))


def random_entries(rows, count, size=9):
    return tuple((number, random_box(rows, size)) for number in rows.sample(range(-count, 2 * count), count))


def box_around(boxes):
    return (min(b[0] for b in boxes), min(b[1] for b in boxes), max(b[2] for b in boxes), max(b[3] for b in boxes))


def entries_in(form):
    if form[0] == "leaf":
        return list(form[1])
    return [entry for _, inner in form[1] for entry in entries_in(inner)]


def random_form(rows, height, numbers, is_outermost=True):
    """Any right form of a height, with numbers from an iterator, and boxes in no helpful order."""
    least = 2 if height > 1 or not is_outermost else 0
    count = rows.randint(least, 4)
    if height == 1:
        return ("leaf", tuple((next(numbers), random_box(rows)) for _ in range(count)))
    forms = [random_form(rows, height - 1, numbers, False) for _ in range(count)]
    return ("node", tuple((box_around([box for _, box in entries_in(form)]), form) for form in forms))


def random_told_tree(rows, height):
    numbers = rows.sample(range(-300, 300), 300)
    return Tree.told(random_form(rows, height, iter(numbers)))


def meets(one, other):
    return one[0] <= other[2] and other[0] <= one[2] and one[1] <= other[3] and other[1] <= one[3]


class BoxesTest(unittest.TestCase):
    def test_is_box(self):
        for value in ((0, 0, 0, 0), LOW, (-5, -9, -5, -1), (-HUGE, -HUGE, HUGE, HUGE)):
            self.assertIs(is_box(value), True)
        for value in NO_BOXES:
            self.assertIs(is_box(value), False, value)

    def test_box_of(self):
        self.assertIsNone(box_of(EMPTY))
        self.assertEqual((box_of(ROAD), box_of(WELL), box_of(FRAME), box_of(MIX)),
            ((-1, 2, 5, 2), (2, 2, 2, 2), (0, 0, 4, 4), (0, 0, 11, 7)))
        self.assertEqual(box_of(dots((1, 1, 2), (-1, -7, 3))), (-1, -3, 1, 1))
        self.assertEqual(box_of(dots((-1, -1, 2))), (-1, -1, 0, 0))
        self.assertEqual(box_of(dots((-4, 4, 1), (-9, 9, 4))), (-4, 2, -2, 4))
        self.assertEqual(box_of(GREAT), (0, 0, 469, 469))
        self.assertEqual(box_of(dots((HUGE, -HUGE, 3))), (HUGE // 3, -HUGE // 3, HUGE // 3 + 1, -HUGE // 3 + 1))
        rows = random.Random(60)
        for _ in range(40):
            shape = led_shape(rows.choice(MAPS), Shape(*random_told(rows)))
            if shape:
                xs, ys = zip(*map(exact, marks_of(shape)))
                self.assertEqual(box_of(shape), (floor(min(xs)), floor(min(ys)), ceil(max(xs)), ceil(max(ys))))
        for value in NO_SHAPES:
            self.assertIsInstance(raised(box_of, value), InvalidShape)

    def test_side_apart(self):
        middle = (0, 0, 4, 4)
        for box, word in (
            ((-3, 1, -1, 2), "left"), ((5, 1, 6, 2), "right"), ((1, -3, 2, -1), "below"), ((1, 5, 2, 6), "above"),
            ((-3, -3, -1, -1), "left"),
            ((5, -3, 6, -1), "right"), ((-3, 5, -1, 6), "left"), ((5, 5, 6, 6), "right"), ((-3, 1, 0, 2), None),
            ((4, 4, 6, 6), None),
            ((1, 4, 2, 9), None), ((1, -9, 2, 0), None), ((1, 1, 2, 2), None), ((-9, -9, 9, 9), None), (middle, None),
            ((-HUGE, 0, -1, 0), "left"), ((0, HUGE, 0, HUGE + 1), "above"),
        ):
            self.assertEqual(side_apart(box, middle), word)
            self.assertIs(are_meeting(box, middle), word is None)
            self.assertIs(are_meeting(middle, box), word is None)
            self.assertEqual(box_common(box, middle) is None, word is not None)

    def test_joint_and_common(self):
        self.assertEqual(box_joint(LOW), LOW)
        self.assertEqual(box_joint(LOW, FAR), (0, 0, 7, 7))
        self.assertEqual(box_joint(LOW, HIGH, FAR, (-1, 3, 0, 3)), (-1, 0, 7, 7))
        self.assertEqual(box_joint(*[(k, -k, k, -k) for k in range(50)]), (0, -49, 49, 0))
        self.assertEqual(box_common(LOW, HIGH), (1, 1, 2, 1))
        self.assertEqual(box_common((0, 0, 1, 1), (1, 1, 2, 2)), (1, 1, 1, 1))
        self.assertIsNone(box_common(LOW, FAR))
        rows = random.Random(61)
        for _ in range(100):
            one, other = random_box(rows, 4), random_box(rows, 4)
            self.assertEqual(box_joint(one, other), box_around([one, other]))
            points = [(x, y) for x in range(-5, 9) for y in range(-5, 9)]
            held = [(x, y) for x, y in points if all(meets((x, y, x, y), box) for box in (one, other))]
            found = box_common(one, other)
            self.assertEqual([(x, y) for x, y in points if found is not None and meets((x, y, x, y), found)], held)

    def test_wrong_boxes(self):
        for value in NO_BOXES:
            for call in (are_meeting, side_apart, box_common, box_joint):
                for args in ((value, LOW), (LOW, value), (value, value)):
                    self.assertIsInstance(raised(call, *args), InvalidBox)
            self.assertIsInstance(raised(box_joint, value), InvalidBox)
            self.assertIsInstance(raised(box_joint, LOW, HIGH, value), InvalidBox)
        self.assertIsInstance(raised(box_joint), InvalidBox)


class TreeTest(unittest.TestCase):
    def check_tree(self, tree, boxes):
        self.assertIs(is_right_form(tree.form), True)
        self.assertEqual(form_flaws(tree.form), ())
        self.assertEqual(dict(entries_in(tree.form)), boxes)
        self.assertEqual(list(tree.boxes.items()), sorted(boxes.items()))
        self.assertEqual((len(tree), list(tree)), (len(boxes), sorted(boxes)))
        self.assertEqual(tree.box, box_around(list(boxes.values())) if boxes else None)
        height, form = 1, tree.form
        while form[0] == "node":
            height, form = height + 1, form[1][0][1]
        self.assertEqual(tree.height, height)
        self.assertEqual(str(tree), f"tree of {len(boxes)} boxes, {height} high")
        self.assertEqual(Tree.told(tree.form), tree)

    def test_sizes(self):
        rows = random.Random(62)
        for count in [*range(0, 70), 99, 128, 256, 257, 299, 300]:
            entries = random_entries(rows, count)
            self.check_tree(Tree(entries), dict(entries))
        same_boxes = tuple((number, LOW) for number in range(300))
        self.check_tree(Tree(same_boxes), dict(same_boxes))
        huge = tuple((number * HUGE, (-HUGE, number, HUGE, HUGE + number)) for number in range(20))
        self.check_tree(Tree(huge), dict(huge))
        self.assertEqual(MAX_ENTRIES, 300)
        self.assertEqual(raised(Tree, tuple((number, LOW) for number in range(301))).limit, 300)
        self.assertEqual((Tree().form, Tree(()).height, Tree().box, str(Tree())),
            (("leaf", ()), 1, None, "tree of 0 boxes, 1 high"))

    def test_edits(self):
        rows = random.Random(63)
        tree, boxes = Tree(), {}
        elder = []
        for step in range(600):
            number, box = rows.randint(-60, 60), random_box(rows)
            if number not in boxes:
                elder.append((tree, dict(boxes)))
                tree, boxes = tree.put(number, box), {**boxes, number: box}
            elif step % 3:
                tree = tree.without(number)
                del boxes[number]
            else:
                tree, boxes = tree.moved(number, box), {**boxes, number: box}
            self.check_tree(tree, boxes)
        for number in list(tree):
            tree = tree.without(number)
            del boxes[number]
            self.check_tree(tree, boxes)
        for old, told in elder[::40]:
            self.check_tree(old, told)

    def test_full_tree(self):
        tree = Tree()
        for number in range(300):
            tree = tree.put(number, (number, -number, number + 5, 0))
        self.check_tree(tree, {number: (number, -number, number + 5, 0) for number in range(300)})
        self.assertEqual(raised(tree.put, 300, LOW).limit, 300)
        self.assertIsInstance(raised(tree.put, 299, LOW), InvalidOperation)
        self.assertIsInstance(raised(tree.put, 300, None), InvalidBox)
        self.check_tree(tree.moved(7, LOW), {**tree.boxes, 7: LOW})
        self.assertEqual(len(tree.without(0).put(300, LOW)), 300)

    def test_told(self):
        tree = Tree.told(FORM)
        self.assertEqual(tree.form, FORM)
        self.check_tree(tree, {1: LOW, 2: HIGH, 3: (5, 5, 5, 5), 4: FAR})
        rows = random.Random(64)
        for height in (1, 1, 2, 2, 3, 3, 4):
            tree = random_told_tree(rows, height)
            self.assertEqual(tree.height, height)
            self.check_tree(tree, dict(entries_in(tree.form)))
            for number in list(tree)[:2]:
                boxes = tree.boxes
                del boxes[number]
                self.check_tree(tree.without(number), boxes)
            self.check_tree(tree.put(1000, LOW), {**tree.boxes, 1000: LOW})
        full = self.big_form(301)
        self.assertEqual(form_flaws(full), ("many",))
        self.assertIs(is_right_form(full), False)
        self.assertEqual(raised(Tree.told, full).limit, 300)
        self.assertEqual(len(Tree.told(self.big_form(300))), 300)

    def big_form(self, count):
        """A right form of so many entries, of one box alone."""
        forms = [("leaf", tuple((number, LOW) for number in range(count)[k::count // 3])) for k in range(count // 3)]
        while len(forms) > 1:
            parts = max(1, len(forms) // 3)
            forms = [("node", tuple((LOW, form) for form in forms[k::parts])) for k in range(parts)]
        return forms[0]

    def test_contains_and_equal(self):
        tree = Tree.told(FORM)
        for value in (1, 2, 3, 4):
            self.assertIs(value in tree, True)
        for value in (*NO_INTEGERS, 0, 5, LOW, FORM, [1], {1}):
            self.assertIs(value in tree, False)
        self.assertIs(tree == Tree.told(FORM), True)
        self.assertIs(tree != Tree.told(FORM), False)
        turned = ("node", FORM[1][::-1])
        for value in (*NO_SHAPES, FORM, Tree(), Tree.told(turned), tree.put(9, LOW), SQUARE):
            self.assertIs(tree == value, False)
            self.assertIs(tree != value, True)
        self.assertEqual([list(tree), list(tree)], [[1, 2, 3, 4]] * 2)

    def test_no_shared_state(self):
        tree = Tree(((2, HIGH), (1, LOW)))
        tree.boxes[3] = FAR
        tree.boxes.clear()
        tree.put(5, FAR)
        tree.without(1)
        tree.moved(2, LOW)
        self.check_tree(tree, {1: LOW, 2: HIGH})
        self.assertEqual(Tree(((2, HIGH), (1, LOW))), tree)


class SearchTest(unittest.TestCase):
    def searched(self, form, box, place=()):
        """By the words of the document: the numbers, what is left out, and how many boxes are compared."""
        numbers, left, looked = [], [], len(form[1])
        for index, member in enumerate(form[1]):
            own = member[1] if form[0] == "leaf" else member[0]
            if not meets(own, box):
                left.append(((*place, index), side_apart(own, box)))
            elif form[0] == "leaf":
                numbers.append(member[0])
            else:
                more = self.searched(member[1], box, (*place, index))
                numbers, left, looked = numbers + more[0], left + more[1], looked + more[2]
        return numbers, left, looked

    def test_search(self):
        tree = Tree.told(FORM)
        self.assertEqual(tree.search_paper((0, 3, 5, 9)), ((2, 3), (((0, 0), "below"), ((1, 0), "right")), 6))
        self.assertEqual(tree.search((0, 3, 5, 9)), (2, 3))
        self.assertEqual(tree.search_paper((9, 9, 9, 9)), ((), (((0,), "left"), ((1,), "left")), 2))
        self.assertEqual((Tree().search(LOW), Tree().search_paper(LOW)), ((), ((), (), 0)))
        self.assertEqual(Tree(((3, LOW),)).search_paper((3, 0, 3, 0)), ((), (((0,), "left"),), 1))

    def test_random_searches(self):
        rows = random.Random(65)
        trees = [random_told_tree(rows, height) for height in (1, 1, 2, 2, 3, 3, 4,
            4)] + [Tree(random_entries(rows, count)) for count in (5, 40, 300)]
        for tree in trees:
            for _ in range(15):
                box = random_box(rows)
                numbers, left, looked = self.searched(tree.form, box)
                self.assertEqual(tree.search_paper(box), (tuple(sorted(numbers)), tuple(sorted(left)), looked))
                self.assertEqual(tree.search(box), tuple(number for number, own in tree.boxes.items() if meets(own, box)))

    def looked_together(self, one, other):
        """By the words of the document: how many pairs of boxes a search of two forms compares."""
        def own(form, member):
            return member[1] if form[0] == "leaf" else member[0]
        meeting = [(a, b) for a in one[1] for b in other[1] if meets(own(one, a), own(other, b))]
        looked = len(one[1]) * len(other[1])
        if one[0] == other[0] == "leaf":
            return looked
        if one[0] == "leaf":
            return looked + sum(self.looked_together(one, b[1]) for b in other[1] if any(b is met for _, met in meeting))
        if other[0] == "leaf":
            return looked + sum(self.looked_together(a[1], other) for a in one[1] if any(a is met for met, _ in meeting))
        return looked + sum(self.looked_together(a[1], b[1]) for a, b in meeting)

    def test_pairs(self):
        rows = random.Random(66)
        trees = [Tree(), Tree(((9, LOW),))] + [random_told_tree(rows, height) for height in (1, 2, 3,
            4)] + [Tree(random_entries(rows, 60, 30))]
        for one in trees:
            for other in trees:
                expected = [(a, b) for a, box in one.boxes.items() for b,
                    other_box in other.boxes.items() if meets(box, other_box)]
                self.assertEqual(one.pairs(other), tuple(expected))
                self.assertEqual(one.pairs_looked(other), self.looked_together(one.form, other.form))
        tree = Tree.told(FORM)
        self.assertEqual(tree.pairs(Tree(((9, (2, 1, 6, 1)),))), ((1, 9), (2, 9), (4, 9)))
        self.assertEqual(tree.pairs_looked(Tree(((9, (2, 1, 6, 1)),))), 6)
        self.assertEqual((tree.pairs_looked(tree), Tree().pairs_looked(tree), tree.pairs_looked(Tree())), (12, 0, 0))
        self.assertEqual(Tree(((1, FAR),)).pairs_looked(Tree.told(FORM)), 4)


class FormFlawsTest(unittest.TestCase):
    def test_each_word(self):
        five = ("leaf", tuple((number, LOW) for number in range(5)))
        one = ("leaf", ((1, LOW),))
        deep = ("node", ((AROUND, LEAF), (AROUND, OTHER)))
        further = ("leaf", ((5, LOW), (6, HIGH))), ("leaf", ((7, LOW), (8, HIGH)))
        inner_wrong = ("node", ((AROUND, further[0]), (LOW, further[1])))
        for value, expected in (
            (("leaf", ()), ()), (one, ()), (LEAF, ()), (FORM, ()), (five, ("size",)),
            (("leaf", ((1, LOW), (1, HIGH))), ("twice",)),
            (("node", ()), ("size",)), (("node", ((AROUND, LEAF),)), ("size",)),
            (("node", ((LOW, one), (AROUND, OTHER))), ("size",)),
            (("node", ((AROUND, LEAF), (AROUND, OTHER))), ()), (("node", ((AROUND, LEAF), ((0, 0, 3, 5), OTHER))), ("box",)),
            (("node", ((AROUND, LEAF), ((0, 0, 3, 3), OTHER))), ("box",)),
            (("node", ((AROUND, deep), (AROUND, inner_wrong))), ("box",)),
            (("node", ((AROUND, LEAF), (AROUND, LEAF))), ("twice",)),
            (("node", ((AROUND, LEAF), (LOW, ("leaf", ())))), ("box", "size")),
            (("node", ((AROUND, LEAF), (LOW, ("node", ())))), ("box", "size")),
            (("node", ((AROUND, deep), (AROUND, ("leaf", ((5, LOW), (6, HIGH)))))), ("depth",)),
            (("node", ((AROUND, deep), (LOW, ("leaf", ((1, LOW),))))), ("depth", "size", "twice")),
            (("node", ((LOW, one),)), ("size",)),
            (("node", (((0, 0, 9, 9), deep), (AROUND, five))), ("box", "depth", "size", "twice")),
            (("node", ((AROUND, LEAF), (AROUND, OTHER), *[(LOW, ("leaf", ((k, LOW), (k + 1, LOW)))) for k in (5, 7, 9)])),
                ("size",)),
            (("leaf", tuple((number, LOW) for number in range(301))), ("many", "size")),
            (("leaf", ((1, LOW),) * 301), ("many", "size", "twice")),
        ):
            self.assertEqual(form_flaws(value), expected)
            self.assertIs(is_right_form(value), expected == ())
            if expected:
                self.assertIsInstance(raised(Tree.told, value), InvalidTree)
            else:
                self.assertEqual(Tree.told(value).form, value)

    def test_all_words_at_once(self):
        many = tuple((1, LOW) for _ in range(301))
        value = ("node", (((0, 0, 9, 9), ("leaf", many)), (LOW, ("node", ((LOW, ("leaf", ((1, LOW),))),)))))
        self.assertEqual(form_flaws(value), ("box", "depth", "many", "size", "twice"))

    def test_shape(self):
        wrong = [*NO_SHAPES, SQUARE, Tree(), ("leaf",), ("leaf", (), ()), ("leaf", []), ["leaf", ()], ("Leaf", ()),
            ("node", ((LOW,),)), (1, ()), ((), "leaf")]
        wrong += [("leaf", ((1, LOW, 0),)), ("leaf", (1, LOW)), ("leaf", ([1, LOW],)), ("leaf", ((LOW, 1),)),
            ("node", ((LEAF, AROUND), (AROUND, OTHER)))]
        wrong += [("leaf", ((value, LOW),)) for value in NO_INTEGERS] + [("leaf", ((1, box),)) for box in NO_BOXES]
        wrong += [("node", ((AROUND, LEAF), (box, OTHER))) for box in NO_BOXES] + [("node",
            ((AROUND, LEAF), (AROUND, value))) for value in NO_BOXES]
        wrong += [("node", ((AROUND, LEAF), [AROUND, OTHER])), ("node", (LEAF, OTHER)),
            ("node", ((AROUND, LEAF), (AROUND, ("leaf", ((True, LOW),)))))]
        for value in wrong:
            self.assertEqual(form_flaws(value), ("shape",), value)
            self.assertIs(is_right_form(value), False)
            self.assertIsInstance(raised(Tree.told, value), InvalidTree)
        bad = ("leaf", ((1, LOW),) * 301 + ((1, None),))
        self.assertEqual(form_flaws(bad), ("shape",))


class WrongTreesTest(unittest.TestCase):
    def test_entries(self):
        right = ((1, LOW), (2, HIGH))
        wrong = [value for value in NO_SHAPES if value != ()] + [list(right), {1: LOW}, (1, LOW), ((1, LOW), (1, HIGH)),
            ((1, LOW, 3),), ([1, LOW],), ((LOW, 1),)]
        wrong += [((value, LOW),) for value in NO_INTEGERS] + [((1, LOW), (2, box)) for box in NO_BOXES]
        wrong += [((1, LOW),) * 302, (*[(number, LOW) for number in range(301)], (5, LOW)), Tree(right), (Tree(),)]
        for value in wrong:
            self.assertIsInstance(raised(Tree, value), InvalidTree, value)

    def test_edits(self):
        tree = Tree.told(FORM)
        for value in NO_INTEGERS:
            for box in (LOW, None):
                for call in (tree.put, tree.moved):
                    self.check_number(value, call, value, box)
            self.check_number(value, tree.without, value)
        for value in (0, 5, -1, HUGE):
            self.check_number(value, tree.without, value)
            for box in (LOW, None):
                self.check_number(value, tree.moved, value, box)
        for box in NO_BOXES:
            for number in (1, 9):
                self.assertIsInstance(raised(tree.put, number, box), InvalidBox)
            self.assertIsInstance(raised(tree.moved, 1, box), InvalidBox)
            self.assertIsInstance(raised(tree.search, box), InvalidBox)
            self.assertIsInstance(raised(tree.search_paper, box), InvalidBox)
        self.assertIsInstance(raised(tree.put, 1, LOW), InvalidOperation)
        self.assertEqual(tree.form, FORM)

    def check_number(self, value, call, *args):
        error = raised(call, *args)
        self.assertIsInstance(error, InvalidNumber)
        self.assertIs(error.value, value)

    def test_other_trees(self):
        for value in (*NO_BOXES[:-2], FORM, LEAF, same(), line((0, 0), (1, 1))):
            self.assertIsInstance(raised(Tree().pairs, value), InvalidTree)
            self.assertIsInstance(raised(Tree().pairs_looked, value), InvalidTree)


if __name__ == "__main__":
    unittest.main()
