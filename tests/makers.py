"""What the tests make messages and calls of."""

from flatmessages.messages import answers

MARK = [0x46, 0x4D, 0x30, 0x31]
TOP = 4294967295

LOAD, CHECK, KIND, NUMBER, BYTES, COUNT, ITEM, FIELD, DEPTH = range(9)


def word(n):
    return [n % 256, n // 256 % 256, n // 65536 % 256, n // 16777216 % 256]


def head(kind, count):
    return [kind] + word(count)[:3]


def number_value(n):
    return head(1, 0) + word(n % 2 ** 32) + word(n // 2 ** 32)


def bytes_value(row, filling=0):
    return head(2, len(row)) + list(row) + [filling] * (-len(row) % 4)


def list_value(*places):
    return head(3, len(places)) + [b for p in places for b in word(p)]


def record_value(*fields):
    return head(4, len(fields)) + [b for k, p in fields for b in word(k) + word(p)]


def message(*values, root=8):
    """The values one after another from 8 on."""
    return MARK + word(root) + [b for value in values for b in value]


def load(data):
    return [LOAD, len(data)] + list(data)


def apart(given):
    """The list that answers gives back, taken apart into one list for each call."""
    rows = []
    start = 0
    while start < len(given):
        end = start + 1 + given[start]
        rows.append(given[start + 1:end])
        start = end
    return rows


def ask(data, *calls):
    """One answer for each call, behind a load of data."""
    assert len(calls) < 200
    flat = load(data) + [n for call in calls for n in call]
    rows = apart(answers(flat))
    assert rows[0] == [0] and len(rows) == 1 + len(calls), rows
    return rows[1:]


def one(data, *call):
    return ask(data, call)[0]


def every_call_at(at):
    """Each of the calls that ask something of a place."""
    return [(KIND, at), (NUMBER, at), (BYTES, at), (COUNT, at),
            (ITEM, at, 0), (FIELD, at, 0), (DEPTH, at)]


def stands(data, at):
    return one(data, KIND, at) != [-1]
