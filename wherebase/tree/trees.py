"""Trees of boxes."""

from wherebase.errors import InvalidNumber, InvalidOperation, InvalidTree, TooMany
from wherebase.base.numbers import is_integer
from wherebase.tree.boxes import box_around, check_boxes
from wherebase.tree.forms import entries_of, has_least_boxes, has_right_sizes, is_built, is_entry, leaf_depths, packed
from wherebase.tree.searches import searched, searched_together

MAX_ENTRIES = 300


class Tree:
    """A tree of numbers with boxes. It has few entries, so each change packs it anew."""

    def __init__(self, entries=()):
        if not isinstance(entries, tuple) or not all([is_entry(entry) for entry in entries]):
            raise InvalidTree("no tuple of pairs of a number and a box")
        if len({number: True for number, _ in entries}) < len(entries):
            raise InvalidTree("a number is told twice")
        if len(entries) > MAX_ENTRIES:
            raise TooMany(MAX_ENTRIES)
        self._take_form(packed(entries))

    def _take_form(self, form):
        """Makes this the tree of a right form; only for a tree that was just created."""
        self._form = form
        self._boxes = {number: box for number, box in sorted(entries_of(form))}

    @classmethod
    def told(cls, form):
        """The tree of a right form."""
        flaws = form_flaws(form)
        if flaws not in ((), ("many",)):
            raise InvalidTree("no right form")
        if flaws:
            raise TooMany(MAX_ENTRIES)
        tree = cls()
        tree._take_form(form)
        return tree

    @property
    def form(self):
        """The form of the tree."""
        return self._form

    @property
    def height(self):
        """1 for a leaf, otherwise one more than that of the branches."""
        return 1 + leaf_depths(self._form)[0]

    @property
    def boxes(self):
        """The dict from the numbers to the boxes."""
        return dict(self._boxes)

    @property
    def box(self):
        """The least box that holds all boxes, or None."""
        return box_around(list(self._boxes.values())) if self._boxes else None

    def put(self, number, box):
        """The tree with one entry more."""
        if not is_integer(number):
            raise InvalidNumber(number)
        check_boxes(box)
        if number in self._boxes:
            raise InvalidOperation("the number is there")
        return Tree((*self._entries(), (number, box)))

    def without(self, number):
        """The tree without an entry."""
        self._check_there(number)
        return Tree(tuple([entry for entry in self._entries() if entry[0] != number]))

    def moved(self, number, box):
        """The tree with another box for a number."""
        self._check_there(number)
        return self.without(number).put(number, box)

    def search(self, box):
        """The ascending tuple of the numbers whose boxes meet a box."""
        return self.search_paper(box)[0]

    def search_paper(self, box):
        """The numbers whose boxes meet a box, what the search leaves out, and how many boxes it compares."""
        check_boxes(box)
        found, out, looked = searched(self._form, box)
        return (tuple(sorted(found)), tuple(sorted(out)), looked)

    def pairs(self, other):
        """The ascending tuple of the pairs of a number of each of two trees whose boxes meet."""
        _check_tree(other)
        found, _ = searched_together(self._form, other._form)
        return tuple(sorted(found))

    def pairs_looked(self, other):
        """How many pairs of boxes a search of two trees together compares."""
        _check_tree(other)
        _, looked = searched_together(self._form, other._form)
        return looked

    def _entries(self):
        return list(self._boxes.items())

    def _check_there(self, number):
        if number not in self:
            raise InvalidNumber(number)

    def __contains__(self, value):
        return is_integer(value) and value in self._boxes

    def __len__(self):
        return len(self._boxes)

    def __iter__(self):
        return iter(self._boxes)

    def __eq__(self, other):
        return isinstance(other, Tree) and self._form == other._form

    def __str__(self):
        return f"tree of {len(self._boxes)} boxes, {self.height} high"


def is_right_form(value):
    """Whether the value is a right form of at most 300 entries."""
    return form_flaws(value) == ()


def form_flaws(value):
    """The ascending tuple of the words for what is wrong with a form."""
    if not is_built(value):
        return ("shape",)
    numbers = [number for number, _ in entries_of(value)]
    told = {
        "box": not has_least_boxes(value),
        "depth": len(set(leaf_depths(value))) > 1,
        "many": len(numbers) > MAX_ENTRIES,
        "size": not has_right_sizes(value),
        "twice": len(set(numbers)) < len(numbers),
    }
    return tuple([word for word in told if told[word]])


def _check_tree(value):
    if not isinstance(value, Tree):
        raise InvalidTree("no tree")
