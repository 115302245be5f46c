"""check and depth: P1, P2."""

import subprocess
import sys
import unittest
from pathlib import Path

from makers import (CHECK, COUNT, DEPTH, ITEM, KIND, TOP, ask, bytes_value, list_value, load,
                    message, number_value, one, record_value, word)


def chain(depth, leaf=None):
    """Lists (and records in turn) of one, down to a leaf; of so many levels in all."""
    data = []
    place = 8
    for level in range(depth - 1):
        if level % 2 == 0:
            data.append(list_value(place + 8))
            place += 8
        else:
            data.append(record_value((level, place + 12)))
            place += 12
    return message(*data, number_value(1) if leaf is None else leaf)


def ladder(counts, leaf):
    """A list for each count, each of its places the next list's; the leaf behind the last."""
    rungs = []
    place = 8
    for count in counts:
        place += 4 + 4 * count
        rungs.append(list_value(*[place] * count))
    return message(*rungs, leaf)


def ladder_size(counts, leaf_size):
    size = leaf_size
    for count in reversed(counts):
        size = 4 + 4 * count + count * size
    return size


class Depths(unittest.TestCase):
    def test_each_kind(self):
        for value, size in ((number_value(0), 12), (bytes_value([]), 4), (bytes_value([1]), 8),
                            (bytes_value([1] * 4), 8), (bytes_value([1] * 5), 12),
                            (list_value(), 4), (record_value(), 4)):
            self.assertEqual(ask(message(value), (CHECK,), (DEPTH, 8)), [[8], [1, size]])

    def test_up_to_8(self):
        for depth in range(1, 9):
            data = chain(depth)
            self.assertEqual(ask(data, (CHECK,), (DEPTH, 8)), [[8], [depth, len(data) - 8]])

    def test_above_8(self):
        for depth in (9, 10, 17, 30):
            self.assertEqual(ask(chain(depth), (CHECK,), (DEPTH, 8), (KIND, 8)), [[-1], [-1], [3]])

    def test_leaf_of_none(self):
        for leaf in (list_value(), record_value(), bytes_value([])):
            self.assertEqual(one(chain(8, leaf), DEPTH, 8)[0], 8)
            self.assertEqual(one(chain(9, leaf), DEPTH, 8), [-1])

    def test_within_one_that_is_too_deep(self):
        data = chain(9)
        self.assertEqual(ask(data, (DEPTH, 16), (CHECK,)), [[8, len(data) - 16], [-1]])
        data[4:8] = word(16)
        self.assertEqual(one(data, CHECK), [16])

    def test_the_deepest_counts(self):
        for places in ((20, 28), (28, 20)):
            data = message(list_value(*places), list_value(28), bytes_value([]))
            self.assertEqual(one(data, DEPTH, 8), [3, 12 + 8 + 4 + 4])

    def test_one_branch_too_deep(self):
        deep = chain(8)
        for places in ((20, 20 + len(deep) - 8), (20 + len(deep) - 8, 20)):
            moved = []
            # The chain stands 12 further on: its places too.
            place = 20
            for level in range(7):
                if level % 2 == 0:
                    place += 8
                    moved.append(list_value(place))
                else:
                    place += 12
                    moved.append(record_value((level, place)))
            data = message(list_value(*places), *moved, number_value(1), list_value())
            self.assertEqual(ask(data, (CHECK,), (DEPTH, 8), (DEPTH, 20)), [[-1], [-1], [8, len(deep) - 8]])


class NotWhole(unittest.TestCase):
    def test_one_that_does_not(self):
        """Each stands right, but one in it doesn't."""
        wrongs = ([0] * 12, [5] * 12, [1, 1, 0, 0] + [0] * 8, [2, 1, 0, 0, 1, 1, 0, 0],
                  list_value(8), list_value(20), record_value((1, 8)), [2, 200, 0, 0])
        for wrong in wrongs:
            data = message(list_value(20, 16), list_value(), wrong)
            self.assertEqual(ask(data, (KIND, 8), (COUNT, 8), (CHECK,), (DEPTH, 8)), [[3], [2], [-1], [-1]])
            data = message(record_value((1, 28), (2, 32)), list_value(), wrong)
            self.assertEqual(ask(data, (KIND, 8), (COUNT, 8), (CHECK,), (DEPTH, 8)), [[4], [2], [-1], [-1]])

    def test_first_or_last(self):
        for places in ((20, 24), (24, 20)):
            data = message(list_value(*places), list_value(), [9, 0, 0, 0])
            self.assertEqual(ask(data, (CHECK,), (DEPTH, 8), (DEPTH, 20), (KIND, 8)), [[-1], [-1], [1, 4], [3]])

    def test_far_within(self):
        for depth in range(1, 9):
            data = chain(depth, [7, 0, 0, 0])
            self.assertEqual(ask(data, (CHECK,), (DEPTH, 8)), [[-1], [-1]])

    def test_no_value_there(self):
        data = message(number_value(1))
        self.assertEqual(ask(data, *[(DEPTH, at) for at in (0, 4, 9, 10, 12, 16, 20, 24, 4294967292, TOP)]),
                         [[-1]] * 10)


class Roots(unittest.TestCase):
    def test_wrong_places(self):
        for root in (0, 4, 7, 9, 10, 11, 13, 20, 24, 512, 65536 + 8, 2 ** 31 + 8, 16777216 + 8,
                     4294967288, 4294967292, TOP):
            data = message([3, 0, 0, 0, 3, 0, 0, 0, 3, 0, 0, 0], root=root)
            self.assertEqual(one(data, CHECK), [-1], root)

    def test_below_8_where_a_value_could_be_read(self):
        # 4 is also a record's kind, of no fields: only its place is wrong.
        self.assertEqual(one(message(list_value(), root=4), CHECK), [-1])

    def test_not_the_first(self):
        data = message([255] * 8, list_value(28, 28), bytes_value([]), root=16)
        self.assertEqual(ask(data, (CHECK,), (KIND, 8), (DEPTH, 16)), [[16], [-1], [2, 20]])

    def test_the_last_four(self):
        data = message([255] * 500, list_value(), root=508)
        self.assertEqual(ask(data, (CHECK,), (DEPTH, 508)), [[508], [1, 4]])

    def test_all_four_bytes(self):
        data = message([255] * 256, number_value(5), root=264)
        self.assertEqual(data[4:8], [8, 1, 0, 0])
        self.assertEqual(one(data, CHECK), [264])

    def test_whole_but_not_the_root(self):
        data = message([9, 0, 0, 0], number_value(5), list_value(12))
        self.assertEqual(ask(data, (CHECK,), (DEPTH, 12)), [[-1], [1, 12]])
        data = message(list_value(16), bytes_value([1, 2]), number_value(3))
        self.assertEqual(ask(data, (CHECK,), (DEPTH, 16), (DEPTH, 24)), [[8], [1, 8], [1, 12]])

    def test_bytes_in_no_value(self):
        data = message([255] * 4, list_value(24), [255] * 4, list_value(), [255] * 3, root=12)
        self.assertEqual(ask(data, (CHECK,), (DEPTH, 12)), [[12], [2, 12]])


class Shared(unittest.TestCase):
    def test_twice(self):
        data = message(list_value(20, 20), number_value(4))
        self.assertEqual(ask(data, (CHECK,), (DEPTH, 8)), [[8], [2, 12 + 24]])

    def test_in_a_record(self):
        data = message(record_value((1, 28), (2, 28)), bytes_value([1, 2, 3, 4, 5]))
        self.assertEqual(ask(data, (CHECK,), (DEPTH, 8)), [[8], [2, 20 + 24]])

    def test_on_two_levels(self):
        data = message(list_value(20, 28), list_value(28), bytes_value([]))
        self.assertEqual(one(data, DEPTH, 8), [3, 12 + 8 + 4 + 4])

    def test_a_value_within_another(self):
        # The list's second place is 12, and the four bytes there, its first place, are a record's: 260 is
        # 04 01 00 00.
        data = message(list_value(260, 12), word(260), [0] * 236, number_value(1))
        self.assertEqual(data[12:16], [4, 1, 0, 0])
        self.assertEqual(ask(data, (ITEM, 8, 0), (ITEM, 8, 1), (KIND, 12), (ITEM, 12, 0), (DEPTH, 12),
                             (DEPTH, 8), (CHECK,)),
                         [[260, 0], [12, 0], [4], [260, 12], [2, 24], [3, 12 + 12 + 24], [8]])

    def test_far_above_the_length(self):
        counts = [16] * 7
        data = ladder(counts, bytes_value([]))
        self.assertEqual(ask(data, (CHECK,), (DEPTH, 8)), [[8], [8, ladder_size(counts, 4)]])

    def test_above_all_numbers(self):
        counts = [16] * 3 + [17] * 4
        data = ladder(counts, number_value(1))
        self.assertLessEqual(len(data), 512)
        self.assertGreater(ladder_size(counts, 12), TOP)
        self.assertEqual(ask(data, (CHECK,), (DEPTH, 8)), [[8], [8, ladder_size(counts, 12)]])

    def test_quickly(self):
        """All calls of a list at such messages, whole, wrong at the end, and too deep."""
        messages = [ladder([16] * 3 + [17] * 4, number_value(1)), ladder([16] * 7, [9, 0, 0, 0]),
                    ladder([14] * 8, number_value(1)), ladder([4] * 25, list_value()),
                    message(*[list_value()] * 126)]
        for data in messages:
            self.assertLessEqual(len(data), 512)
            calls = load(data) + [DEPTH, 8] * 100 + [CHECK] * 99
            program = f"from flatmessages.messages import answers; answers({calls})"
            subprocess.run([sys.executable, "-c", program], check=True, timeout=60,
                           cwd=Path(__file__).resolve().parent.parent)
