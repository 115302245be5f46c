"""The builder's calls; each answer is a list of numbers.

The holder has the object's message as data, and the builder's row of trees as trees.
"""

from flatmessages.trees import DEEPEST, bytes_tree, list_tree, number_tree, record_tree
from flatmessages.wholes import whole_at
from flatmessages.words import keys_rise
from flatmessages.writing import message_of

MOST_TREES = 16
MOST_SIZE = 504

BEGIN = 9
PUT_NUMBER = 10
PUT_BYTES = 11
LIST_CALL = 12
RECORD_CALL = 13
COPY = 14
SIZES = 15
FINISH = 16


def size_together(trees):
    """The sizes of trees together."""
    return sum([tree.size for tree in trees])


def has_room(trees):
    """Whether these may be a builder's trees."""
    if len(trees) > MOST_TREES or size_together(trees) > MOST_SIZE:
        return False
    return all([tree.depth <= DEEPEST for tree in trees])


def row_answer(holder, trees):
    """Takes these as the builder's trees if there is room, and tells what is answered."""
    if not has_room(trees):
        return [-2]
    holder.trees = trees
    return [0]


def begin_answer(holder):
    """Empties the builder, and tells what begin answers."""
    holder.trees = []
    return [0]


def put_answer(holder, tree):
    """Puts a tree more, and tells what is answered."""
    return row_answer(holder, holder.trees + [tree])


def list_answer(holder, k):
    """Makes one of the last k trees, and tells what list answers."""
    if k > len(holder.trees):
        return [-1]
    start = len(holder.trees) - k
    return row_answer(holder, holder.trees[:start] + [list_tree(holder.trees[start:])])


def record_answer(holder, keys):
    """Makes one of as many trees as keys, and tells what record answers."""
    if len(keys) > len(holder.trees) or not keys_rise(keys):
        return [-1]
    start = len(holder.trees) - len(keys)
    return row_answer(holder, holder.trees[:start] + [record_tree(keys, holder.trees[start:])])


def copy_answer(holder, at):
    """Puts what the message's value at a place says, and tells what copy answers."""
    tree = whole_at(holder.data, at)
    if tree is None:
        return [-1]
    return put_answer(holder, tree)


def sizes_answer(holder):
    """What sizes answers."""
    return [len(holder.trees), size_together(holder.trees)]


def finish_answer(holder):
    """What finish answers."""
    if len(holder.trees) != 1:
        return [-1]
    data = message_of(holder.trees[0])
    return [len(data)] + data


def adopt_answer(holder):
    """Takes the message of the builder's tree as the object's, and tells what adopt answers."""
    if len(holder.trees) != 1:
        return [-1]
    holder.data = message_of(holder.trees[0])
    return [0]


def building_answer(holder, call, numbers, row):
    """What one of the calls 9 to 17, begin to adopt, answers."""
    if call == BEGIN:
        return begin_answer(holder)
    if call == PUT_NUMBER:
        return put_answer(holder, number_tree(numbers[0], numbers[1]))
    if call == PUT_BYTES:
        return put_answer(holder, bytes_tree(row))
    if call == LIST_CALL:
        return list_answer(holder, numbers[0])
    if call == RECORD_CALL:
        return record_answer(holder, row)
    if call == COPY:
        return copy_answer(holder, numbers[0])
    if call == SIZES:
        return sizes_answer(holder)
    if call == FINISH:
        return finish_answer(holder)
    return adopt_answer(holder)
