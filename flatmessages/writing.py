"""The message of a tree."""

from flatmessages.words import BYTES, FIRST_PLACE, LIST, MARK, NUMBER, own_size, rounded_up


def word_bytes(number):
    """The four bytes of a number."""
    return [number % 256, number // 256 % 256, number // 65536 % 256, number // 16777216]


def head_bytes(kind, count):
    """The four bytes that a value begins with."""
    return [kind] + word_bytes(count)[:3]


def places_within(tree, at):
    """The places of the trees in a tree that stands at a place, in order."""
    places = []
    place = at + own_size(tree.kind, tree.count)
    for one in tree.inner:
        places.append(place)
        place = place + one.size
    return places


def number_bytes(content):
    """What a number has behind its first four bytes."""
    return word_bytes(content[1]) + word_bytes(content[0])


def filled_bytes(row):
    """What bytes have behind their first four."""
    return row + [0] * (rounded_up(len(row)) - len(row))


def list_bytes(places):
    """What a list has behind its first four bytes."""
    data = []
    for place in places:
        data.extend(word_bytes(place))
    return data


def record_bytes(keys, places):
    """What a record has behind its first four bytes."""
    data = []
    for key, place in zip(keys, places):
        data.extend(word_bytes(key))
        data.extend(word_bytes(place))
    return data


def inside_bytes(tree, at):
    """What the first value of a tree that stands at a place has behind its first four bytes."""
    if tree.kind == NUMBER:
        return number_bytes(tree.content)
    if tree.kind == BYTES:
        return filled_bytes(tree.content)
    if tree.kind == LIST:
        return list_bytes(places_within(tree, at))
    return record_bytes(tree.content, places_within(tree, at))


def message_of(tree):
    """The message of a tree."""
    data = list(MARK) + word_bytes(FIRST_PLACE)
    # The last of those that wait comes next: so all that is in a value comes before its neighbour.
    waiting = [tree]
    while waiting:
        following = waiting.pop()
        at = len(data)
        data.extend(head_bytes(following.kind, following.count))
        data.extend(inside_bytes(following, at))
        waiting.extend(list(reversed(following.inner)))
    return data
