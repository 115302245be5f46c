"""Whole values: the trees that they say."""

from flatmessages.trees import DEEPEST, bytes_tree, list_tree, number_tree, record_tree
from flatmessages.words import BYTES, LIST, NUMBER
from flatmessages.words import bytes_in, keys_in, kind_at, places_in, stands_right, word_at


def tree_of(data, at, inner):
    """The tree that the value at a place says, if inner has those of the values in it."""
    kind = kind_at(data, at)
    if kind == NUMBER:
        return number_tree(word_at(data, at + 8), word_at(data, at + 4))
    if kind == BYTES:
        return bytes_tree(bytes_in(data, at))
    if kind == LIST:
        return list_tree(inner)
    return record_tree(keys_in(data, at), inner)


def told_tree(data, at, wholes):
    """The tree that the value at a place says, None if it is not whole.

    wholes has the tree of each whole value behind it, by its place.
    """
    if not stands_right(data, at):
        return None
    places = places_in(data, at)
    if not all([place in wholes for place in places]):
        return None
    tree = tree_of(data, at, [wholes[place] for place in places])
    if tree.depth > DEEPEST:
        return None
    return tree


def whole_at(data, at):
    """The tree that the whole value at a place says, None if there is none."""
    if not stands_right(data, at):
        return None
    # Places only point onwards, so from the last to the first each value is looked at once,
    # however often it is shared.
    wholes = {}
    last = len(data) // 4 * 4 - 4
    for place in range(last, at - 1, -4):
        tree = told_tree(data, place, wholes)
        if tree is not None:
            wholes[place] = tree
    return wholes.get(at)
