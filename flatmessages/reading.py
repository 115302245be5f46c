"""The calls that ask something of a message's bytes; each answer is a list of numbers."""

from flatmessages.wholes import whole_at
from flatmessages.words import BYTES, LIST, NUMBER, RECORD
from flatmessages.words import bytes_in, count_at, is_message, key_in, keys_in, kind_at
from flatmessages.words import place_in, root_of, stands_right, word_at

CHECK = 1
KIND = 2
NUMBER_CALL = 3
BYTES_CALL = 4
COUNT = 5
ITEM = 6
DEPTH = 8


def check_answer(data):
    """What check answers."""
    if not is_message(data) or whole_at(data, root_of(data)) is None:
        return [-1]
    return [root_of(data)]


def depth_answer(data, at):
    """What depth answers."""
    tree = whole_at(data, at)
    if tree is None:
        return [-1]
    return [tree.depth, tree.size]


def number_answer(data, at):
    """What number answers where a value stands right."""
    if kind_at(data, at) != NUMBER:
        return [-2]
    return [0, word_at(data, at + 8), word_at(data, at + 4)]


def bytes_answer(data, at):
    """What bytes answers where a value stands right."""
    if kind_at(data, at) != BYTES:
        return [-2]
    return [count_at(data, at), at + 4] + bytes_in(data, at)


def count_answer(data, at):
    """What count answers where a value stands right."""
    if kind_at(data, at) == NUMBER:
        return [-2]
    return [count_at(data, at)]


def item_answer(data, at, i):
    """What item answers where a value stands right."""
    kind = kind_at(data, at)
    if kind != LIST and kind != RECORD:
        return [-2]
    if i >= count_at(data, at):
        return [-3]
    if kind == LIST:
        return [place_in(data, at, i), 0]
    return [place_in(data, at, i), key_in(data, at, i)]


def field_answer(data, at, key):
    """What field answers where a value stands right."""
    if kind_at(data, at) != RECORD:
        return [-2]
    keys = keys_in(data, at)
    if key not in keys:
        return [-3]
    return [place_in(data, at, keys.index(key))]


def value_answer(data, call, numbers):
    """What one of the calls 2 to 7, kind to field, answers."""
    at = numbers[0]
    if not stands_right(data, at):
        return [-1]
    if call == KIND:
        return [kind_at(data, at)]
    if call == NUMBER_CALL:
        return number_answer(data, at)
    if call == BYTES_CALL:
        return bytes_answer(data, at)
    if call == COUNT:
        return count_answer(data, at)
    if call == ITEM:
        return item_answer(data, at, numbers[1])
    return field_answer(data, at, numbers[1])


def asking_answer(data, call, numbers):
    """What one of the calls 1 to 8, check to depth, answers."""
    if call == CHECK:
        return check_answer(data)
    if call == DEPTH:
        return depth_answer(data, numbers[0])
    return value_answer(data, call, numbers)
