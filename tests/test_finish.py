"""finish and adopt: P3, and P2 of what is built."""

import unittest

from makers import (ADOPT, BEGIN, BYTES, CHECK, COUNT, DEPTH, FIELD, FINISH, ITEM, KIND, LIST, MARK, NUMBER, SIZES,
                    TOP, ask, build, calls_for, depth_for, every_call_at, finished, load, message, message_for,
                    number_value, putbytes, putnumber, record, size_for, word)

TREES = [0, 2 ** 64 - 1, b"", b"a", b"abcd", b"abcde", bytes(range(256)), b"\0" * 500, [], {}, [1], [1, b"xyz"],
         {0: 1}, {0: b"", TOP: 2}, [[], {}, [[], {}]], {1: [2, 3], 5: {6: b"7", 8: []}, 9: b"0123456789"},
         [[[[[[[b"deep"]]]]]]], {1: {2: {3: {4: {5: {6: {7: 8}}}}}}}, [{1: [{2: [{3: []}]}]}, 5],
         list(range(16)), {10 * n: b"n" * n for n in range(16)}, [[1, 2], [3, 4], [[5], [6, [7]]], {1: [], 2: [8]}]]


def read_back(data, at):
    """The tree at a place, by the calls that read alone."""
    kind, = ask(data, (KIND, at))[0]
    if kind == 1:
        zero, high, low = ask(data, (NUMBER, at))[0]
        assert zero == 0
        return 2 ** 32 * high + low
    count, = ask(data, (COUNT, at))[0]
    if kind == 2:
        row = ask(data, (BYTES, at))[0]
        assert row[:2] == [count, at + 4]
        return bytes(row[2:])
    pairs = ask(data, *[(ITEM, at, i) for i in range(count)]) if count else []
    if kind == 3:
        assert all(key == 0 for place, key in pairs)
        return [read_back(data, place) for place, key in pairs]
    for place, key in pairs:
        assert ask(data, (FIELD, at, key)) == [[place]]
    return {key: read_back(data, place) for place, key in pairs}


class Finish(unittest.TestCase):
    def test_none_one_and_two(self):
        rows = build((FINISH,), putnumber(1), (FINISH,), putnumber(2), (FINISH,), (LIST, 2), (FINISH,))
        self.assertEqual(rows[::2], [[-1], finished(1), [-1], finished([1, 2])])

    def test_any_more(self):
        for count in range(2, 17):
            self.assertEqual(build(*[putbytes([])] * count, (FINISH,), (ADOPT,))[count:], [[-1], [-1]])

    def test_one_again_after_begin(self):
        rows = build(putnumber(1), putnumber(2), (BEGIN,), (FINISH,), putnumber(3), (FINISH,))
        self.assertEqual(rows[3:], [[-1], [0], finished(3)])

    def test_place_by_place(self):
        """A list of a list, a record and a number; each right before those in it."""
        calls = calls_for([[1, b"abcde"], {2: [3], 9: {}}, 4])
        values = [[3, 3, 0, 0] + word(24) + word(60) + word(104),                       # 8
                  [3, 2, 0, 0] + word(36) + word(48),                                   # 24
                  [1, 0, 0, 0, 1, 0, 0, 0, 0, 0, 0, 0],                                 # 36
                  [2, 5, 0, 0, 97, 98, 99, 100, 101, 0, 0, 0],                          # 48
                  [4, 2, 0, 0] + word(2) + word(80) + word(9) + word(100),              # 60
                  [3, 1, 0, 0] + word(88),                                              # 80
                  [1, 0, 0, 0, 3, 0, 0, 0, 0, 0, 0, 0],                                 # 88
                  [4, 0, 0, 0],                                                         # 100
                  [1, 0, 0, 0, 4, 0, 0, 0, 0, 0, 0, 0]]                                 # 104
        self.assertEqual(build(*calls, (FINISH,))[-1], [116] + MARK + [8, 0, 0, 0] + sum(values, []))

    def test_places_above_255(self):
        calls = calls_for([b"x" * 300, 4])
        given = build(*calls, (FINISH,))[-1]
        self.assertEqual(given[:21], [336] + MARK + [8, 0, 0, 0, 3, 2, 0, 0, 20, 0, 0, 0, 68, 1, 0, 0])

    def test_each_tree(self):
        for tree in TREES:
            self.assertEqual(build(*calls_for(tree), (FINISH,))[-1], finished(tree))

    def test_length(self):
        for tree in TREES:
            sizes, given = build(*calls_for(tree), (SIZES,), (FINISH,))[-2:]
            self.assertEqual(sizes, [1, size_for(tree)])
            self.assertEqual(given[0], 8 + size_for(tree))
            self.assertEqual(len(given), 1 + given[0])

    def test_twice(self):
        for tree in TREES:
            rows = build(*calls_for(tree), (FINISH,), (FINISH,), (SIZES,), (FINISH,))
            self.assertEqual(rows[-4], rows[-3])
            self.assertEqual(rows[-4], rows[-1])

    def test_the_same_tree_in_other_ways(self):
        """One message for each tree, however it came to be."""
        tree = [[1, b"x"], {5: 1}]
        ways = [calls_for(tree),
                [load(message_for(tree)), (14, 8)],
                [load(message_for([1, b"x"])), (14, 8), (14, 20), record(5), (LIST, 2)],
                [putnumber(8), (BEGIN,), (LIST, 3), putnumber(1), putbytes(b"x"), record(2, 1), (LIST, 2), putnumber(1),
                 (FINISH,), record(5), putbytes([0] * 600), (LIST, 2)]]
        for calls in ways:
            self.assertEqual(build(*calls, (FINISH,))[-1], finished(tree))

    def test_passes_check_and_is_read_back(self):
        for tree in TREES:
            data = build(*calls_for(tree), (FINISH,))[-1][1:]
            self.assertEqual(ask(data, (CHECK,), (DEPTH, 8)), [[8], [depth_for(tree), size_for(tree)]])
            self.assertEqual(read_back(data, 8), tree)

    def test_leaves_the_message(self):
        data = message(number_value(5))
        rows = build(load(data), *calls_for([1]), (FINISH,), (CHECK,), (NUMBER, 8), (KIND, 16))
        self.assertEqual(rows[-3:], [[8], [0, 0, 5], [-1]])


class Adopt(unittest.TestCase):
    def test_refused_unless_just_one(self):
        data = message(number_value(5))
        rows = build(load(data), (ADOPT,), (NUMBER, 8), *[putnumber(1)] * 2, (ADOPT,), (NUMBER, 8), (SIZES,))
        self.assertEqual(rows[1:], [[-1], [0, 0, 5], [0], [0], [-1], [0, 0, 5], [2, 24]])

    def test_all_is_read_as_put_in(self):
        tree = {3: [7, b"abcde"], 700: {}, TOP: 2 ** 40 + 9}
        rows = build(*calls_for(tree), (ADOPT,), (CHECK,), (KIND, 8), (COUNT, 8), (DEPTH, 8),
                     (ITEM, 8, 0), (ITEM, 8, 1), (ITEM, 8, 2), (ITEM, 8, 3), (FIELD, 8, 700), (FIELD, 8, 4),
                     (KIND, 36), (COUNT, 36), (DEPTH, 36), (ITEM, 36, 0), (ITEM, 36, 1), (FIELD, 36, 3),
                     (KIND, 48), (NUMBER, 48), (COUNT, 48), (KIND, 60), (BYTES, 60), (COUNT, 60), (NUMBER, 60),
                     (KIND, 72), (COUNT, 72), (DEPTH, 72), (NUMBER, 76), (KIND, 88))
        self.assertEqual(rows[len(calls_for(tree)):], [
            [0], [8], [4], [3], [3, 28 + 36 + 4 + 12],
            [36, 3], [72, 700], [76, TOP], [-3], [72], [-3],
            [3], [2], [2, 36], [48, 0], [60, 0], [-2],
            [1], [0, 0, 7], [-2], [2], [5, 64, 97, 98, 99, 100, 101], [5], [-2],
            [4], [0], [1, 4], [0, 256, 9], [-1]])

    def test_each_tree(self):
        for tree in TREES:
            data = message_for(tree)
            places = range(8, len(data), 4)
            asking = [(CHECK,)] + [call for at in places for call in every_call_at(at)]
            for start in range(0, len(asking), 100):
                part = asking[start:start + 100]
                rows = build(*calls_for(tree), (ADOPT,), *part)
                self.assertEqual(rows[-len(part):], ask(data, *part))
                self.assertEqual(rows[-len(part) - 1], [0])

    def test_the_builder_stays(self):
        for tree in TREES:
            rows = build(*calls_for(tree), (SIZES,), (FINISH,), (ADOPT,), (SIZES,), (FINISH,), (ADOPT,), (CHECK,))
            self.assertEqual(rows[-7:-5], rows[-4:-2])
            self.assertEqual(rows[-2:], [[0], [8]])

    def test_building_on_leaves_the_message(self):
        asking = [(CHECK,), (DEPTH, 8), (ITEM, 8, 0), (NUMBER, 16), (KIND, 28)]
        due = [[8], [2, 20], [16, 0], [0, 0, 1], [-1]]
        rows = build(*calls_for([1]), (ADOPT,), *asking, putnumber(2), *asking, (LIST, 2), *asking, (LIST, 1), *asking,
                     (BEGIN,), *asking)
        self.assertEqual(rows[3:], due + [[0]] + due + [[0]] + due + [[0]] + due + [[0]] + due)

    def test_takes_the_place_of_a_longer_message(self):
        data = message_for([1, 2, 3])
        rows = build(load(data), (KIND, 48), (LIST, 0), (ADOPT,), (CHECK,), (KIND, 8), (COUNT, 8), (KIND, 12), (KIND, 48))
        self.assertEqual(rows[1:], [[1], [0], [0], [8], [3], [0], [-1], [-1]])

    def test_load_after_it(self):
        rows = build(putnumber(1), (ADOPT,), load(message_for(b"x")), (KIND, 8), (SIZES,), (ADOPT,), (NUMBER, 8))
        self.assertEqual(rows[2:], [[0], [2], [1, 12], [0], [0, 0, 1]])

    def test_once_more_and_more(self):
        """A list of what was adopted, adopted again."""
        calls, due = [(LIST, 0)], [[0]]
        for depth in range(1, 9):
            calls += [(ADOPT,), (CHECK,), (DEPTH, 8), (LIST, 1)]
            due += [[0], [8], [depth, 4 + 8 * (depth - 1)], [0] if depth < 8 else [-2]]
        self.assertEqual(build(*calls), due)
