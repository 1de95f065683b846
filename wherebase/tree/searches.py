"""Searches of the forms of trees."""

from wherebase.tree.boxes import apart_word


def searched(form, box):
    """The triple of what a search by a box finds, what it leaves out, and how many boxes it compares.

    It finds a list of numbers, and leaves out a list of pairs of a place and a word.
    """
    word, members = form
    found, out = [], []
    looked = len(members)
    for index, member in enumerate(members):
        side = apart_word(_box_of(word, member), box)
        if side is not None:
            out.append(((index,), side))
        elif word == "leaf":
            found.append(member[0])
        else:
            inner_found, inner_out, inner_looked = searched(member[1], box)
            found.extend(inner_found)
            out.extend([((index, *place), inner_side) for place, inner_side in inner_out])
            looked += inner_looked
    return found, out, looked


def searched_together(form, other):
    """The list of the pairs of numbers that a search of two forms finds, and how many pairs of boxes it compares."""
    (word, members), (other_word, other_members) = form, other
    meeting = [(index, other_index) for index, member in enumerate(members)
               for other_index, other_member in enumerate(other_members)
               if apart_word(_box_of(word, member), _box_of(other_word, other_member)) is None]
    looked = len(members) * len(other_members)
    if word == "leaf" and other_word == "leaf":
        return [(members[one][0], other_members[two][0]) for one, two in meeting], looked
    if word == "leaf":
        inner = [(form, other_members[two][1]) for two in sorted({two for _, two in meeting})]
    elif other_word == "leaf":
        inner = [(members[one][1], other) for one in sorted({one for one, _ in meeting})]
    else:
        inner = [(members[one][1], other_members[two][1]) for one, two in meeting]
    found = []
    for one_form, other_form in inner:
        inner_found, inner_looked = searched_together(one_form, other_form)
        found.extend(inner_found)
        looked += inner_looked
    return found, looked


def _box_of(word, member):
    """The box of an entry of a leaf, or of a branch of a node."""
    return member[1] if word == "leaf" else member[0]
