"""What the tests make messages and calls of."""

from flatmessages.messages import answers

MARK = [0x46, 0x4D, 0x30, 0x31]
TOP = 4294967295

LOAD, CHECK, KIND, NUMBER, BYTES, COUNT, ITEM, FIELD, DEPTH = range(9)
BEGIN, PUTNUMBER, PUTBYTES, LIST, RECORD, COPY, SIZES, FINISH, ADOPT = range(9, 18)


def word(n):
    return [n % 256, n // 256 % 256, n // 65536 % 256, n // 16777216 % 256]


def head(kind, count):
    return [kind] + word(count)[:3]


def number_value(n):
    return head(1, 0) + word(n % 2 ** 32) + word(n // 2 ** 32)


def bytes_value(row, filling=0):
    return head(2, len(row)) + list(row) + [filling] * (-len(row) % 4)


def list_value(*places):
    return head(3, len(places)) + [b for p in places for b in word(p)]


def record_value(*fields):
    return head(4, len(fields)) + [b for k, p in fields for b in word(k) + word(p)]


def message(*values, root=8):
    """The values one after another from 8 on."""
    return MARK + word(root) + [b for value in values for b in value]


def load(data):
    return [LOAD, len(data)] + list(data)


def putnumber(n):
    return (PUTNUMBER, n // 2 ** 32, n % 2 ** 32)


def putbytes(row):
    return (PUTBYTES, len(row), *row)


def record(*keys):
    return (RECORD, len(keys), *keys)


def apart(given):
    """The list that answers gives back, taken apart into one list for each call."""
    rows = []
    start = 0
    while start < len(given):
        end = start + 1 + given[start]
        rows.append(given[start + 1:end])
        start = end
    return rows


def build(*calls):
    """One answer for each call on a new object."""
    flat = [n for call in calls for n in call]
    assert len(calls) <= 200 and len(flat) <= 30000
    rows = apart(answers(flat))
    assert len(rows) == len(calls), rows
    return rows


def ask(data, *calls):
    """One answer for each call, behind a load of data."""
    rows = build(load(data), *calls)
    assert rows[0] == [0], rows
    return rows[1:]


def one(data, *call):
    return ask(data, call)[0]


def every_call_at(at):
    """Each of the calls that ask something of a place."""
    return [(KIND, at), (NUMBER, at), (BYTES, at), (COUNT, at),
            (ITEM, at, 0), (FIELD, at, 0), (DEPTH, at)]


def stands(data, at):
    return one(data, KIND, at) != [-1]


# Trees are written as whole numbers, bytes, lists of trees, and dicts of trees by their keys.

def calls_for(tree):
    """The calls that put a tree."""
    if isinstance(tree, int):
        return [putnumber(tree)]
    if isinstance(tree, bytes):
        return [putbytes(tree)]
    inner = list(tree.values()) if isinstance(tree, dict) else tree
    last = record(*tree) if isinstance(tree, dict) else (LIST, len(tree))
    return [call for one in inner for call in calls_for(one)] + [last]


def laid_out(tree, at=8):
    """The bytes of a tree that stands at a place."""
    if isinstance(tree, int):
        return number_value(tree)
    if isinstance(tree, bytes):
        return bytes_value(tree)
    inner = list(tree.values()) if isinstance(tree, dict) else tree
    place = at + 4 + (8 if isinstance(tree, dict) else 4) * len(tree)
    places, behind = [], []
    for one in inner:
        places.append(place + len(behind))
        behind += laid_out(one, places[-1])
    front = record_value(*zip(tree, places)) if isinstance(tree, dict) else list_value(*places)
    return front + behind


def message_for(tree):
    return message(laid_out(tree))


def finished(tree):
    """What finish answers of a builder that has this tree alone."""
    data = message_for(tree)
    return [len(data)] + data


def size_for(tree):
    """A tree's size, by the words."""
    if isinstance(tree, int):
        return 12
    if isinstance(tree, bytes):
        return 4 + (len(tree) + 3) // 4 * 4
    if isinstance(tree, dict):
        return 4 + 8 * len(tree) + sum(size_for(one) for one in tree.values())
    return 4 + 4 * len(tree) + sum(size_for(one) for one in tree)


def depth_for(tree):
    """A tree's depth, by the words."""
    if isinstance(tree, (int, bytes)):
        return 1
    inner = tree.values() if isinstance(tree, dict) else tree
    return 1 + max([depth_for(one) for one in inner], default=0)
