"""Whole values: their depths and the sizes of their trees."""

from flatmessages.words import count_at, kind_at, own_size, places_in, stands_right

DEEPEST = 8


def measured(data, at, wholes):
    """The depth and the tree's size of the value at a place, None if it is not whole.

    wholes has the same of each whole value behind it, by its place.
    """
    if not stands_right(data, at):
        return None
    depth = 1
    size = own_size(kind_at(data, at), count_at(data, at))
    for place in places_in(data, at):
        if place not in wholes:
            return None
        inner = wholes[place]
        depth = max(depth, 1 + inner[0])
        size = size + inner[1]
    if depth > DEEPEST:
        return None
    return (depth, size)


def whole_at(data, at):
    """The depth and the tree's size of the whole value at a place, None if there is none."""
    if not stands_right(data, at):
        return None
    # Places only point onwards, so from the last to the first each value is looked at once,
    # however often it is shared.
    wholes = {}
    last = len(data) // 4 * 4 - 4
    for place in range(last, at - 1, -4):
        found = measured(data, place, wholes)
        if found is not None:
            wholes[place] = found
    return wholes.get(at)
