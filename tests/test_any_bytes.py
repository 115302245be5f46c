"""Any bytes, at any place, beside the words told a second time and as plainly as they stand: P1, P2."""

import random
import unittest

from flatmessages.messages import answers
from makers import (BYTES, CHECK, COUNT, DEPTH, FIELD, ITEM, KIND, MARK, NUMBER, TOP, apart, ask, head, load,
                    message, word)


class Refused(Exception):
    """The refusal's number is its argument."""


def low_first(row):
    return int.from_bytes(bytes(row), "little")


def read(data, at):
    """The value that stands right at a place: its kind and what it has."""
    if not 8 <= len(data) <= 512 or bytes(data[:4]) != b"FM01" or at < 8 or at % 4:
        raise Refused(-1)
    rest = list(data[at:])

    def take(many):
        if many > len(rest):
            raise Refused(-1)
        taken = rest[:many]
        rest[:many] = []
        return taken

    kind = take(1)[0]
    count = low_first(take(3))
    if kind == 1 and count == 0:
        return kind, low_first(take(8))
    if kind == 2:
        row = take(count)
        while (len(data) - len(rest)) % 4:
            if take(1) != [0]:
                raise Refused(-1)
        return kind, row
    if kind not in (3, 4):
        raise Refused(-1)
    pairs = []
    for _ in range(count):
        key = low_first(take(4)) if kind == 4 else 0
        place = low_first(take(4))
        if place <= at or place % 4 or place + 4 > len(data):
            raise Refused(-1)
        if kind == 4 and pairs and key <= pairs[-1][1]:
            raise Refused(-1)
        pairs.append((place, key))
    return kind, pairs


def measure(data, at, seen):
    """The depth and size by going down, each place once."""
    if at not in seen:
        kind, has = read(data, at)
        if kind == 1:
            seen[at] = (1, 12)
        elif kind == 2:
            seen[at] = (1, 4 + len(has) + -len(has) % 4)
        else:
            inner = [measure(data, place, seen) for place, key in has]
            seen[at] = (1 + max([depth for depth, size in inner], default=0),
                        4 + (4 if kind == 3 else 8) * len(has) + sum(size for depth, size in inner))
        if seen[at][0] > 8:
            raise Refused(-1)
    return seen[at]


def expected(data, call, at, more):
    if call == CHECK:
        if len(data) < 8:
            raise Refused(-1)
        root = low_first(data[4:8])
        measure(data, root, {})
        return [root]
    if call == DEPTH:
        return list(measure(data, at, {}))
    kind, has = read(data, at)
    if call == KIND:
        return [kind]
    if {NUMBER: kind != 1, BYTES: kind != 2, COUNT: kind == 1,
            ITEM: kind not in (3, 4), FIELD: kind != 4}[call]:
        raise Refused(-2)
    if call == NUMBER:
        return [0, has >> 32, has & TOP]
    if call == BYTES:
        return [len(has), at + 4] + has
    if call == COUNT:
        return [len(has)]
    if call == ITEM:
        if more >= len(has):
            raise Refused(-3)
        return list(has[more])
    for place, key in has:
        if key == more:
            return [place]
    raise Refused(-3)


def answer_of(data, call):
    at, more = (list(call[1:]) + [0, 0])[:2]
    try:
        return expected(data, call[0], at, more)
    except Refused as refused:
        return [refused.args[0]]


def soup(chance, words):
    """Words that are now a value's beginning, now a place, now anything: values in one another."""
    data = []
    end = 8 + 4 * words
    for _ in range(words):
        draw = chance.random()
        if draw < 0.5:
            data += head(chance.choice([1, 2, 3, 3, 4, 4]), chance.choice([0, 0, 1, 1, 1, 2, 2, 3, 5]))
        elif draw < 0.95:
            data += word(chance.randrange(8, end, 4))
        else:
            data += [chance.randrange(256) for _ in range(4)]
    return MARK + word(chance.randrange(8, end, 4)) + data


def laid(chance, values):
    """Values from the last to the first, their places among those that are there: most are whole."""
    sizes = []
    plans = []
    for _ in range(values):
        kind = chance.choice([1, 2, 3, 3, 3, 4, 4])
        count = 0 if kind == 1 else chance.randrange(7) if kind == 2 else chance.randrange(4)
        plans.append((kind, count))
        sizes.append({1: 12, 2: 4 + (count + 3) // 4 * 4, 3: 4 + 4 * count, 4: 4 + 8 * count}[kind])
    starts = [8 + sum(sizes[:k]) for k in range(values)]
    parts = []
    for k, (kind, count) in enumerate(plans):
        behind = starts[k + 1:k + 6]
        if not behind and kind > 2:
            count = 0
        if kind == 1:
            parts.append(head(1, 0) + [chance.randrange(256) for _ in range(8)])
        elif kind == 2:
            parts.append(head(2, count) + [chance.randrange(256) for _ in range(count)] + [0] * (-count % 4))
        elif kind == 3:
            parts.append(head(3, count) + [b for _ in range(count) for b in word(chance.choice(behind))])
        else:
            keys = sorted(chance.sample([0, 1, 2, 3, 255, 256, 65536, TOP - 1, TOP], count))
            parts.append(head(4, count) + [b for key in keys for b in word(key) + word(chance.choice(behind))])
    return message(*parts)


def spoiled(chance, data):
    """One byte changed, or the end cut off, or something behind it."""
    data = list(data)
    way = chance.randrange(3)
    if way == 0:
        data[chance.randrange(len(data))] = chance.choice([0, 1, 2, 3, 4, 5, 8, 255, chance.randrange(256)])
    elif way == 1:
        data = data[:-chance.randrange(1, 9)]
    else:
        data += [chance.randrange(256) for _ in range(chance.randrange(1, 9))]
    return data


def some_messages():
    chance = random.Random(37)
    for k in range(150):
        yield soup(chance, chance.choice([2, 5, 10, 30, 126]))
    for k in range(150):
        data = laid(chance, chance.choice([1, 2, 4, 8, 12]))
        yield data
        yield spoiled(chance, data)
    for k in range(20):
        yield [chance.randrange(256) for _ in range(chance.randrange(100))]
        yield MARK + [chance.randrange(256) for _ in range(chance.randrange(100))]


class AnyBytes(unittest.TestCase):
    def test_as_the_words_say(self):
        met = {}
        for data in some_messages():
            calls = [(CHECK,)]
            for at in list(range(0, len(data) + 9, 4)) + [9, 14, TOP]:
                calls += [(KIND, at), (NUMBER, at), (BYTES, at), (COUNT, at), (DEPTH, at)]
                calls += [(ITEM, at, i) for i in (0, 1, 2, TOP)]
                calls += [(FIELD, at, key) for key in (0, 1, 8, 256, TOP)]
            rows = [row for k in range(0, len(calls), 199) for row in ask(data, *calls[k:k + 199])]
            for call, given in zip(calls, rows, strict=True):
                self.assertEqual(given, answer_of(data, call), (data, call))
                sort = (call[0], min(given[0], 0))
                met[sort] = met.get(sort, 0) + 1
        for sort in ((CHECK, 0), (CHECK, -1), (KIND, 0), (KIND, -1), (NUMBER, 0), (NUMBER, -2), (BYTES, 0),
                     (BYTES, -2), (COUNT, 0), (COUNT, -2), (ITEM, 0), (ITEM, -2), (ITEM, -3), (FIELD, 0),
                     (FIELD, -2), (FIELD, -3), (DEPTH, 0), (DEPTH, -1)):
            self.assertGreater(met.get(sort, 0), 20, sort)


class Reached(unittest.TestCase):
    def places_in(self, data, at):
        kind, = ask(data, (KIND, at))[0]
        self.assertIn(kind, (1, 2, 3, 4))
        if kind < 3:
            return []
        count = ask(data, (COUNT, at))[0][0]
        return [row[0] for row in ask(data, *[(ITEM, at, i) for i in range(count)])] if count else []

    def test_from_a_checked_root(self):
        """Each value that can be come to stands right, further on than where one came from."""
        passed = 0
        for data in some_messages():
            root = apart(answers(load(data) + [CHECK]))[1][0]
            if root == -1:
                continue
            passed += 1
            waiting = [root]
            seen = {root}
            while waiting:
                at = waiting.pop()
                for place in self.places_in(data, at):
                    self.assertGreater(place, at)
                    if place not in seen:
                        seen.add(place)
                        waiting.append(place)
        self.assertGreater(passed, 100)
