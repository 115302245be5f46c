"""copy: P4."""

import subprocess
import sys
import unittest
from pathlib import Path

from makers import (ADOPT, BEGIN, CHECK, COPY, DEPTH, FINISH, KIND, LIST, NUMBER, SIZES, TOP, ask, build, bytes_value,
                    calls_for, finished, list_value, load, message, message_for, number_value, one, putnumber, record,
                    record_value, size_for)

TREES = [0, 2 ** 64 - 1, b"", b"a", b"abcd", b"abcde", [], {}, [1], [1, b"xyz"], {0: 1}, {0: b"", TOP: 2},
         [[], {}, [[], {}]], {1: [2, 3], 5: {6: b"7", 8: []}, 9: b"0123456789"},
         [[[[[[[b"deep"]]]]]]], {1: {2: {3: {4: {5: {6: {7: 8}}}}}}}, [{1: [{2: [{3: []}]}]}, 5]]


class EachKind(unittest.TestCase):
    def test_ordinary(self):
        for tree in TREES:
            rows = ask(message_for(tree), (COPY, 8), (SIZES,), (FINISH,))
            self.assertEqual(rows, [[0], [1, size_for(tree)], finished(tree)])

    def test_not_the_root(self):
        # 8 record, 28 list, 40 number, 52 bytes, 64 record of none.
        data = message(record_value((3, 28), (700, 52)), list_value(40, 64), number_value(5 * 2 ** 32 + 6),
                       bytes_value([9, 8, 7, 6, 5]), record_value())
        n, b = 5 * 2 ** 32 + 6, bytes([9, 8, 7, 6, 5])
        for at, tree in ((8, {3: [n, {}], 700: b}), (28, [n, {}]), (40, n), (52, b), (64, {})):
            self.assertEqual(ask(data, (COPY, at), (FINISH,)), [[0], finished(tree)])

    def test_a_root_that_is_not_whole(self):
        data = message(number_value(4), list_value(8), bytes_value([1]), root=20)
        self.assertEqual(ask(data, (CHECK,), (COPY, 8), (COPY, 20), (COPY, 28), (LIST, 2), (FINISH,)),
                         [[-1], [0], [-1], [0], [0], finished([4, b"\x01"])])

    def test_out_of_order_and_with_gaps(self):
        data = message([255] * 4, list_value(44, 28), [255] * 4, bytes_value([1, 2]), [255] * 8, number_value(3), [255],
                       root=12)
        self.assertEqual(ask(data, (COPY, 12), (SIZES,), (FINISH,)), [[0], [1, 32], finished([3, b"\x01\x02"])])

    def test_one_tree_more(self):
        data = message_for([1, b"x"])
        rows = ask(data, putnumber(7), (COPY, 8), (SIZES,), (COPY, 20), (SIZES,), record(2, 4, 6), (FINISH,))
        self.assertEqual(rows, [[0], [0], [2, 44], [0], [3, 56], [0], finished({2: 7, 4: [1, b"x"], 6: 1})])

    def test_a_value_within_another(self):
        # The eight bytes of the number are a list's beginning and a place.
        data = message(number_value(3 + 256 + 20 * 2 ** 32), bytes_value([6]))
        self.assertEqual(ask(data, (COPY, 12), (COPY, 8), (LIST, 2), (FINISH,)),
                         [[0], [0], [0], finished([[b"\x06"], 3 + 256 + 20 * 2 ** 32])])


class Shared(unittest.TestCase):
    def test_as_often_as_met(self):
        data = message(list_value(24, 24, 24), number_value(5))
        self.assertEqual(ask(data, (DEPTH, 8), (COPY, 8), (SIZES,), (FINISH,)),
                         [[2, 52], [0], [1, 52], finished([5, 5, 5])])

    def test_in_a_record(self):
        data = message(record_value((1, 28), (9, 28)), list_value(36), bytes_value([4]))
        self.assertEqual(ask(data, (COPY, 8), (SIZES,), (FINISH,)),
                         [[0], [1, 20 + 16 + 16], finished({1: [b"\x04"], 9: [b"\x04"]})])

    def test_on_several_levels(self):
        data = message(list_value(24, 24, 36), list_value(36, 36), bytes_value([]))
        self.assertEqual(ask(data, (COPY, 8), (SIZES,), (FINISH,)),
                         [[0], [1, 16 + 2 * 20 + 4], finished([[b"", b""], [b"", b""], b""])])

    def test_just_504_and_just_above(self):
        # The bytes are met twice, so of two lengths one is just room enough and one is just too much.
        for first, size in ((12, 504), (16, 508)):
            rest = size - 16 - 2 * first
            data = message(list_value(24, 24, 24 + first), bytes_value([1] * (first - 4)), bytes_value([2] * (rest - 4)))
            rows = ask(data, (DEPTH, 8), (COPY, 8), (SIZES,))
            self.assertEqual(rows, [[2, size]] + ([[0], [1, 504]] if size == 504 else [[-2], [0, 0]]))

    def test_many_times_one(self):
        # Of k places to one number: 4 and 16 times k.
        for k, rest in ((31, [[0], [1, 500]]), (32, [[-2], [0, 0]])):
            data = message(list_value(*[12 + 4 * k] * k), number_value(5))
            self.assertEqual(ask(data, (DEPTH, 8), (COPY, 8), (SIZES,)), [[2, 4 + 16 * k]] + rest)

    def test_a_value_that_fits_in_one_that_does_not(self):
        # Of k lists of none: 4 and 8 times k; a list of one around it: 8 more.
        data = message(list_value(16), list_value(*[20 + 4 * 62] * 62), list_value())
        self.assertEqual(ask(data, (DEPTH, 8), (COPY, 8), (SIZES,), (COPY, 16), (SIZES,)),
                         [[3, 508], [-2], [0, 0], [0], [1, 500]])

    def test_a_record_that_is_shared(self):
        data = message(record_value((1, 28), (2, 28)), bytes_value([3] * 236))
        self.assertEqual(ask(data, (DEPTH, 8), (COPY, 8), (SIZES,)), [[2, 500], [0], [1, 500]])
        data = message(record_value((1, 28), (2, 28)), bytes_value([3] * 240))
        self.assertEqual(ask(data, (DEPTH, 8), (COPY, 8), (SIZES,)), [[2, 508], [-2], [0, 0]])

    def test_far_above(self):
        """Many levels, each pointing often to the next: refused, and quickly."""
        rungs = []
        place = 8
        for count in [16] * 3 + [17] * 4:
            place += 4 + 4 * count
            rungs.append(list_value(*[place] * count))
        data = message(*rungs, number_value(1))
        size = one(data, DEPTH, 8)[1]
        self.assertGreater(size, TOP)
        calls = load(data) + [COPY, 8] * 100 + [SIZES, CHECK]
        program = f"from flatmessages.messages import answers; print(answers({calls}))"
        done = subprocess.run([sys.executable, "-c", program], check=True, timeout=60, capture_output=True, text=True,
                              cwd=Path(__file__).resolve().parent.parent)
        self.assertEqual(done.stdout.strip(), str([1, 0] + [1, -2] * 100 + [2, 0, 0, 1, 8]))

    def test_the_last_rungs_fit(self):
        data = message(list_value(*[44] * 8), list_value(*[64] * 4), list_value(*[84] * 4), list_value())
        self.assertEqual(ask(data, (DEPTH, 8), (COPY, 8), (COPY, 44), (FINISH,)),
                         [[4, 36 + 8 * (20 + 4 * (20 + 4 * 4))], [-2], [0], finished([[[]] * 4] * 4)])


class Refused(unittest.TestCase):
    def test_stands_right_but_is_not_whole(self):
        for data in (message(list_value(12)), message(list_value(12), [9, 0, 0, 0]),
                     message(record_value((1, 20)), [0] * 4), message(list_value(16, 20), list_value(8))):
            rows = ask(data, (DEPTH, 8), (COPY, 8), (SIZES,))
            self.assertEqual(rows, [[-1], [-1], [0, 0]])
        data = message(list_value(20, 24), list_value(), [9, 0, 0, 0])
        self.assertEqual(ask(data, (KIND, 8), (COPY, 8), (COPY, 20), (COPY, 24), (SIZES,)),
                         [[3], [-1], [0], [-1], [1, 4]])

    def test_too_deep(self):
        data = message(*[list_value(16 + 8 * k) for k in range(8)], list_value())
        self.assertEqual(ask(data, (KIND, 8), (COPY, 8), (COPY, 16), (SIZES,)), [[3], [-1], [0], [1, 60]])

    def test_none_stands_there(self):
        data = message(number_value(9), list_value())
        self.assertEqual(ask(data, *[(COPY, at) for at in (0, 1, 4, 7, 9, 10, 11, 12, 16, 24, 28, 508, 512, 65536 + 8,
                                                           2 ** 31 + 8, TOP - 3, TOP)], (SIZES,)),
                         [[-1]] * 17 + [[0, 0]])

    def test_wrong_values(self):
        for wrong in ([1, 1, 0, 0] + [0] * 8, [2, 1, 0, 0, 1, 1, 0, 0], list_value(8), record_value((2, 28), (1, 28)),
                      [0, 0, 0, 0], [5, 0, 0, 0]):
            self.assertEqual(ask(message(wrong, list_value()), (COPY, 8), (SIZES,)), [[-1], [0, 0]])

    def test_no_message(self):
        data = message(number_value(1))
        for wrong in ([], data[:7], [0] + data[1:], data + [0] * 500):
            self.assertEqual(ask(wrong, (COPY, 8), (SIZES,)), [[-1], [0, 0]])


class Again(unittest.TestCase):
    def test_after_an_adopt(self):
        """What finish gives of the copy is the same message."""
        for tree in TREES:
            rows = build(*calls_for(tree), (FINISH,), (ADOPT,), (BEGIN,), (COPY, 8), (SIZES,), (FINISH,))
            self.assertEqual(rows[-6], finished(tree))
            self.assertEqual(rows[-5:], [[0], [0], [0], [1, size_for(tree)], finished(tree)])

    def test_beside_what_was_adopted(self):
        rows = build(*calls_for([1, b"x"]), (ADOPT,), (COPY, 8), (COPY, 20), (LIST, 3), (FINISH,))
        self.assertEqual(rows[-1], finished([[1, b"x"], [1, b"x"], 1]))

    def test_stays_when_other_bytes_are_loaded(self):
        rows = build(load(message_for([1, b"x"])), (COPY, 8), load(message_for(5)), (COPY, 8), load([]), (LIST, 2),
                     (FINISH,))
        self.assertEqual(rows, [[0]] * 6 + [finished([[1, b"x"], 5])])

    def test_leaves_the_message(self):
        data = message(list_value(20, 20), number_value(4))
        rows = ask(data, (COPY, 8), (CHECK,), (DEPTH, 8), (NUMBER, 20), (6, 8, 0), (6, 8, 1))
        self.assertEqual(rows, [[0], [8], [2, 36], [0, 0, 4], [20, 0], [20, 0]])
