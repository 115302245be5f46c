"""Any calls in any order, beside the builder told a second time and as plainly as it stands: P1 to P5."""

import random
import unittest

from makers import (ADOPT, BEGIN, CHECK, COPY, DEPTH, FINISH, LIST, LOAD, PUTBYTES, PUTNUMBER, RECORD, SIZES, TOP, ask,
                    build, depth_for, finished, load, message_for, putbytes, record, size_for)
from test_any_bytes import Refused, answer_of, laid, measure, read, soup, spoiled

ASKING = (*range(CHECK, DEPTH + 1), SIZES, FINISH)


def said(data, at):
    """The tree that a whole value says."""
    kind, has = read(data, at)
    if kind == 1:
        return has
    if kind == 2:
        return bytes(has)
    if kind == 3:
        return [said(data, place) for place, key in has]
    return {key: said(data, place) for place, key in has}


class Told:
    """An object, by the words."""

    def __init__(self):
        self.data = []
        self.trees = []

    def becomes(self, kept, tree):
        trees = self.trees[:kept] + [tree]
        if len(trees) > 16 or depth_for(tree) > 8 or sum(size_for(one) for one in trees) > 504:
            raise Refused(-2)
        self.trees = trees
        return [0]

    def one(self):
        if len(self.trees) != 1:
            raise Refused(-1)
        return self.trees[0]

    def record(self, keys):
        count = len(keys)
        if count > len(self.trees) or sorted(set(keys)) != list(keys):
            raise Refused(-1)
        kept = len(self.trees) - count
        return self.becomes(kept, dict(zip(keys, self.trees[kept:])))

    def copy(self, at):
        depth, size = measure(self.data, at, {})
        # Only what could ever fit is unfolded.
        if size > 504:
            raise Refused(-2)
        return self.becomes(len(self.trees), said(self.data, at))

    def due(self, call):
        number, more = call[0], call[1:]
        if number == LOAD:
            self.data = list(more[1:])
        elif number == BEGIN:
            self.trees = []
        elif number == PUTNUMBER:
            return self.becomes(len(self.trees), 2 ** 32 * more[0] + more[1])
        elif number == PUTBYTES:
            return self.becomes(len(self.trees), bytes(more[1:]))
        elif number == LIST:
            if more[0] > len(self.trees):
                raise Refused(-1)
            kept = len(self.trees) - more[0]
            return self.becomes(kept, self.trees[kept:])
        elif number == RECORD:
            return self.record(more[1:])
        elif number == COPY:
            return self.copy(more[0])
        elif number == SIZES:
            return [len(self.trees), sum(size_for(one) for one in self.trees)]
        elif number == FINISH:
            return finished(self.one())
        elif number == ADOPT:
            self.data = message_for(self.one())
        else:
            return answer_of(self.data, call)
        return [0]

    def answer(self, call):
        try:
            return self.due(call)
        except Refused as refused:
            return [refused.args[0]]


def some_bytes(chance):
    data = chance.choice([laid, laid, soup])(chance, chance.choice([1, 2, 4, 8, 12]))
    return spoiled(chance, data) if chance.random() < 0.2 else data


def some_keys(chance, trees):
    count = min(chance.choice([0, 1, 2, 2, 3, trees, trees, trees + 1, 17, 600]), 600)
    keys = sorted(chance.sample(range(2 * count + 1), count))
    draw = chance.random()
    if count > 1 and draw < 0.15:
        keys[chance.randrange(1, count)] = keys[0]
    elif count > 1 and draw < 0.3:
        keys.reverse()
    elif count and draw < 0.6:
        keys[-1] = TOP
    return keys


def some_call(chance, told, small):
    """A call that has something to do where the object is now; small ones leave room for many."""
    trees = len(told.trees)
    at = chance.choice([8, 8, chance.randrange(8, max(len(told.data), 9), 4), chance.randrange(600), TOP])
    low = chance.choice([0, 1, 2, 3, 255, 256, TOP, chance.randrange(2 ** 32)])
    draw = chance.choice("nnbbbbllllrrrrcccsfaiiiox" + "B" * (chance.random() < 0.1))
    if draw == "n":
        return (PUTNUMBER, chance.choice([0, TOP, chance.randrange(2 ** 32)]), low)
    if draw == "b":
        length = chance.choice([0, 0, 1, 2, 3, 4, 5] if small else [0, 3, 40, 100, 204, 500, 501, 600])
        return putbytes([chance.randrange(256) for _ in range(length)])
    if draw == "l":
        return (LIST, min(chance.choice([0, 1, 1, 2, 3, trees, trees, trees + 1, TOP]), TOP))
    if draw == "r":
        return record(*some_keys(chance, trees))
    if draw == "o":
        return load(some_bytes(chance))
    one_number = {"c": (COPY, at), "s": (SIZES,), "f": (FINISH,), "a": (ADOPT,), "B": (BEGIN,), "x": (CHECK,)}
    if draw in one_number:
        return one_number[draw]
    number = chance.randrange(CHECK, DEPTH + 1)
    return (number, at, low)[:{CHECK: 1, 6: 3, 7: 3}.get(number, 2)]


class AnyCalls(unittest.TestCase):
    def test_as_the_words_say(self):
        chance = random.Random(5)
        met = {}
        for run in range(300):
            told = Told()
            calls, due = [], []
            while len(calls) < 200 and sum(len(call) for call in calls) < 29000:
                call = some_call(chance, told, run % 2)
                calls.append(call)
                due.append(told.answer(call))
                sort = (call[0], min(due[-1][0], 0))
                met[sort] = met.get(sort, 0) + 1
            given = build(*calls)
            for k, (is_given, is_due) in enumerate(zip(given, due, strict=True)):
                self.assertEqual(is_given, is_due, calls[:k + 1])
        for sort in ((PUTNUMBER, -2), (PUTBYTES, -2), (LIST, -1), (LIST, -2), (RECORD, -1), (RECORD, -2), (COPY, -1),
                     (COPY, -2), (FINISH, -1), (ADOPT, -1), *[(number, 0) for number in (LOAD, *range(BEGIN, ADOPT + 1))]):
            self.assertGreater(met.get(sort, 0), 50, (sort, met))


class AnyTree(unittest.TestCase):
    def test_what_is_built_passes_the_check(self):
        """finish's message, and a copy of each value in it, as put in."""
        chance = random.Random(11)
        built = 0
        for run in range(300):
            told = Told()
            for _ in range(40):
                told.answer(some_call(chance, told, True))
            for tree in told.trees:
                built += 1
                data = message_for(tree)
                self.assertEqual(ask(data, (CHECK,), (COPY, 8), (FINISH,), (ADOPT,), (CHECK,), (DEPTH, 8)),
                                 [[8], [0], finished(tree), [0], [8], [depth_for(tree), size_for(tree)]])
                self.assertEqual(said(data, 8), tree)
        self.assertGreater(built, 300)


class NothingChanges(unittest.TestCase):
    def test_calls_that_ask_or_are_refused(self):
        """Left out of a list, they leave the other answers as they were."""
        chance = random.Random(23)
        for run in range(60):
            told = Told()
            calls = []
            for _ in range(150):
                calls.append(some_call(chance, told, run % 2))
                told.answer(calls[-1])
                if sum(len(call) for call in calls) > 25000:
                    break
            given = build(*calls)
            kept = [k for k, call in enumerate(calls) if given[k][0] >= 0 and call[0] not in ASKING]
            last = [(SIZES,), (FINISH,), (CHECK,), (DEPTH, 8), (COPY, 8), (SIZES,), (LIST, 2), (FINISH,)]
            self.assertEqual(build(*calls, *last)[-len(last):], build(*[calls[k] for k in kept], *last)[-len(last):])
