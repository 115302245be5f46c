"""The words: what a message is, and when a value stands right in it."""

MARK = (70, 77, 48, 49)
FIRST_PLACE = 8
LONGEST = 512
STEP = 4

NUMBER = 1
BYTES = 2
LIST = 3
RECORD = 4


def word_at(data, place):
    """The number in the four bytes from a place on."""
    low = data[place] + 256 * data[place + 1]
    return low + 65536 * (data[place + 2] + 256 * data[place + 3])


def root_of(data):
    """The place that a message names as its root's."""
    return word_at(data, 4)


def kind_at(data, at):
    """The kind that the four bytes at a place tell."""
    return data[at]


def count_at(data, at):
    """The count that the four bytes at a place tell."""
    return word_at(data, at) // 256


def rounded_up(length):
    """The least multiple of 4 that is not below a length."""
    return (length + STEP - 1) // STEP * STEP


def own_size(kind, count):
    """How many bytes a value takes without those in it."""
    if kind == NUMBER:
        return 12
    if kind == BYTES:
        return 4 + rounded_up(count)
    if kind == LIST:
        return 4 + 4 * count
    return 4 + 8 * count


def place_in(data, at, i):
    """The place of the i-th element or field of the list or record at a place."""
    if kind_at(data, at) == LIST:
        return word_at(data, at + 4 + 4 * i)
    return word_at(data, at + 8 + 8 * i)


def key_in(data, at, i):
    """The key of the i-th field of the record at a place."""
    return word_at(data, at + 4 + 8 * i)


def places_in(data, at):
    """All places in the value at a place, in order."""
    if kind_at(data, at) == NUMBER or kind_at(data, at) == BYTES:
        return []
    return [place_in(data, at, i) for i in range(count_at(data, at))]


def keys_in(data, at):
    """All keys of the record at a place, in order."""
    return [key_in(data, at, i) for i in range(count_at(data, at))]


def bytes_in(data, at):
    """The bytes of the value of that kind at a place."""
    return data[at + 4:at + 4 + count_at(data, at)]


def is_message(data):
    """Whether bytes have a message's beginning and length."""
    return FIRST_PLACE <= len(data) <= LONGEST and tuple(data[:4]) == MARK


def may_hold_value(data, place):
    """Whether a place has what is asked of it before a value there is looked at."""
    return place >= FIRST_PLACE and place % STEP == 0 and place <= len(data) - STEP


def filling_is_zeros(data, at):
    """Whether nothing but zeros fills up the bytes at a place."""
    count = count_at(data, at)
    filling = data[at + 4 + count:at + 4 + rounded_up(count)]
    return all([one == 0 for one in filling])


def places_are_right(data, at):
    """Whether each place in the value at a place lies behind it and in the message."""
    return all([place > at and may_hold_value(data, place) for place in places_in(data, at)])


def keys_rise(keys):
    """Whether each key is greater than the one before."""
    return all([one < other for one, other in zip(keys, keys[1:])])


def inside_is_right(data, at):
    """Whether a value that lies in the message whole has what its kind asks."""
    kind = kind_at(data, at)
    if kind == NUMBER:
        return count_at(data, at) == 0
    if kind == BYTES:
        return filling_is_zeros(data, at)
    if kind == RECORD and not keys_rise(keys_in(data, at)):
        return False
    return places_are_right(data, at)


def stands_right(data, at):
    """Whether a value stands right at a place."""
    if not is_message(data) or not may_hold_value(data, at):
        return False
    kind = kind_at(data, at)
    if kind < NUMBER or kind > RECORD:
        return False
    # A count may be far above the message's length: the end is looked at before anything inside.
    if at + own_size(kind, count_at(data, at)) > len(data):
        return False
    return inside_is_right(data, at)
