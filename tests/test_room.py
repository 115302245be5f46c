"""The builder's room: how many trees, how large, how deep; P5 of -2's words."""

import unittest

from makers import (ADOPT, BEGIN, COPY, DEPTH, FINISH, LIST, RECORD, SIZES, TOP, ask, build, bytes_value, calls_for,
                    finished, list_value, load, message, number_value, putbytes, putnumber, record, record_value)

# 8 record, 28 list, 40 number, 52 bytes, 64 list of none.
DATA = message(record_value((3, 28), (700, 52)), list_value(40, 64),
               number_value(5), bytes_value([9, 8, 7, 6, 5]), list_value())

# Calls that put one tree more, and its size.
ONE_MORE = [(putnumber(1), 12), (putbytes([]), 4), (putbytes([1]), 8), (putbytes([1] * 9), 16), ((LIST, 0), 4),
            (record(), 4), ((COPY, 8), 20 + 12 + 12 + 4 + 12), ((COPY, 28), 28), ((COPY, 40), 12), ((COPY, 52), 12),
            ((COPY, 64), 4)]


def of_size(size):
    """The call that puts a tree of this size."""
    return putbytes([7] * (size - 4))


class HowMany(unittest.TestCase):
    def test_the_16th(self):
        for call, size in ONE_MORE:
            rows = build(load(DATA), *[putbytes([])] * 15, call, (SIZES,))
            self.assertEqual(rows, [[0]] * 17 + [[16, 60 + size]])

    def test_the_17th(self):
        for call, size in ONE_MORE:
            rows = build(load(DATA), *[putbytes([])] * 16, call, (SIZES,), call, (SIZES,))
            self.assertEqual(rows, [[0]] * 17 + [[-2], [16, 64], [-2], [16, 64]])

    def test_all_in_the_same_way(self):
        for call, size in ONE_MORE:
            if 16 * size <= 504:
                rows = build(load(DATA), *[call] * 17, (SIZES,))
                self.assertEqual(rows, [[0]] * 17 + [[-2], [16, 16 * size]])

    def test_16_become_one_list(self):
        rows = build(*[putnumber(n) for n in range(16)], (LIST, 16), (SIZES,), (FINISH,))
        self.assertEqual(rows[16:], [[0], [1, 192 + 68], finished(list(range(16)))])

    def test_16_become_one_record(self):
        rows = build(*[putnumber(n) for n in range(16)], record(*range(100, 116)), (SIZES,), (FINISH,))
        self.assertEqual(rows[16:], [[0], [1, 192 + 132], finished(dict(zip(range(100, 116), range(16))))])

    def test_one_of_16_becomes_one(self):
        """Of 16 trees the last becomes a list, or a record, of one: there are 16 still."""
        for call, size in (((LIST, 1), 8), (record(4), 12)):
            rows = build(*[putbytes([])] * 16, call, (SIZES,))
            self.assertEqual(rows[16:], [[0], [16, 64 + size]])

    def test_of_none_at_16(self):
        rows = build(*[putnumber(1)] * 16, (LIST, 0), record(), (SIZES,), (LIST, 16), (LIST, 0), record(), (SIZES,))
        self.assertEqual(rows[16:], [[-2], [-2], [16, 192], [0], [0], [0], [3, 268]])

    def test_room_for_more_after_some_become_one(self):
        rows = build(*[putbytes([])] * 16, (LIST, 2), putbytes([]), putbytes([]), (SIZES,))
        self.assertEqual(rows[16:], [[0], [0], [-2], [16, 14 * 4 + 20 + 4]])


class HowLarge(unittest.TestCase):
    def test_one_more_to_just_504(self):
        for call, size in ONE_MORE:
            rows = build(load(DATA), of_size(504 - size), call, (SIZES,))
            self.assertEqual(rows[2:], [[0], [2, 504]])

    def test_one_more_to_508(self):
        for call, size in ONE_MORE:
            rows = build(load(DATA), of_size(508 - size), call, (SIZES,))
            self.assertEqual(rows[2:], [[-2], [1, 508 - size]])

    def test_one_more_where_there_is_none_left(self):
        for call, size in ONE_MORE:
            rows = build(load(DATA), of_size(504), call, (SIZES,), (FINISH,))
            self.assertEqual(rows[2:], [[-2], [1, 504], finished(bytes([7] * 500))])

    def test_putbytes_alone(self):
        for length in (496, 497, 500):
            self.assertEqual(build(putbytes([1] * length))[0], [0])
        for length in (501, 503, 504, 600):
            self.assertEqual(build(putbytes([1] * length))[0], [-2])

    def test_putbytes_beside_others(self):
        for before in (4, 8, 100, 496, 500):
            left = 504 - before - 4
            for length in range(max(left - 5, 0), left + 6):
                rows = build(of_size(before), putbytes([1] * length), (SIZES,))
                size = 4 + (length + 3) // 4 * 4
                if length <= left:
                    self.assertEqual(rows[1:], [[0], [2, before + size]])
                else:
                    self.assertEqual(rows[1:], [[-2], [1, before]])

    def assert_grows(self, call, k, own):
        """That k trees become one where own more just fits, and not where it's 4 more."""
        for others in {0, 16 - k}:
            if k + others == 0:
                continue
            for left in (own, own - 4):
                rest = 504 - left - 4 * (k + others - 1)
                trees = [of_size(4)] * (k + others - 1)
                for at in {0, len(trees)}:
                    calls = trees[:at] + [of_size(rest)] + trees[at:]
                    rows = build(*calls, (SIZES,), call, (SIZES,))
                    self.assertEqual(rows[:-3], [[0]] * (k + others))
                    self.assertEqual(rows[-3], [k + others, 504 - left])
                    if left == own and 1 + others <= 16:
                        self.assertEqual(rows[-2:], [[0], [1 + others, 504]])
                    else:
                        self.assertEqual(rows[-2:], [[-2], [k + others, 504 - left]])

    def test_list_of_k(self):
        for k in range(17):
            self.assert_grows((LIST, k), k, 4 + 4 * k)

    def test_record_of_k(self):
        for k in range(17):
            self.assert_grows(record(*range(k)), k, 4 + 8 * k)

    def test_finish_of_the_largest(self):
        for call, own, keys in (((LIST, 2), 12, None), (record(1, 2), 20, [1, 2])):
            rows = build(putnumber(9), of_size(492 - own), call, (SIZES,), (FINISH,), (ADOPT,), (1,))
            inner = [9, bytes([7] * (488 - own))]
            tree = inner if keys is None else dict(zip(keys, inner))
            self.assertEqual(rows[2:], [[0], [1, 504], finished(tree), [0], [8]])
            self.assertEqual(rows[4][0], 512)

    def test_room_again_after_begin(self):
        rows = build(of_size(504), (LIST, 0), (BEGIN,), (LIST, 0), (SIZES,))
        self.assertEqual(rows[1:], [[-2], [0], [0], [1, 4]])


class HowDeep(unittest.TestCase):
    WRAPS = ((LIST, 1), (RECORD, 1, 5))

    def nested(self, depth, first=putbytes([])):
        """Calls that put a tree of this depth: lists and records within one another."""
        return [first] + [self.WRAPS[k % 2] for k in range(depth - 1)]

    def test_to_8_and_to_9(self):
        for first in (putnumber(1), putbytes([1]), (LIST, 0), record()):
            for odd in (0, 1):
                wraps = [self.WRAPS[(k + odd) % 2] for k in range(8)]
                rows = build(first, *wraps[:7], (SIZES,), wraps[7], (SIZES,), (ADOPT,), (DEPTH, 8))
                self.assertEqual(rows[:8], [[0]] * 8)
                self.assertEqual(rows[9], [-2])
                self.assertEqual(rows[10], rows[8])
                self.assertEqual(rows[12], [8, rows[8][1]])

    def test_one_kind_alone(self):
        for wrap in self.WRAPS:
            rows = build((LIST, 0), *[wrap] * 9)
            self.assertEqual(rows, [[0]] * 8 + [[-2]] * 2)

    def test_the_deepest_not_the_last(self):
        for place in range(3):
            for wrap in ((LIST, 3), record(1, 2, 3)):
                for deep, due in ((7, [0]), (8, [-2])):
                    groups = [[putnumber(1)]] * 3
                    groups[place] = self.nested(deep)
                    calls = [call for group in groups for call in group]
                    rows = build(*calls, wrap, (SIZES,))
                    self.assertEqual(rows[:-2], [[0]] * len(calls))
                    self.assertEqual(rows[-2], due)
                    self.assertEqual(rows[-1][0], 1 if due == [0] else 3)

    def test_a_deep_one_before_those_that_become_one(self):
        rows = build(*self.nested(8), putnumber(1), (LIST, 1), (LIST, 1), (SIZES,), (LIST, 2), (SIZES,))
        self.assertEqual(rows[9:11], [[0], [0]])
        self.assertEqual(rows[-2], [-2])
        self.assertEqual(rows[-1], rows[-3])

    def test_beside_others_that_stay(self):
        for wrap in self.WRAPS:
            rows = build(putnumber(1), *self.nested(8), (SIZES,), wrap, (SIZES,), (LIST, 2), (SIZES,))
            self.assertEqual(rows[-4], [-2])
            self.assertEqual(rows[-2], [-2])
            self.assertEqual(rows[-5], rows[-3])
            self.assertEqual(rows[-5], rows[-1])

    def test_of_none_beside_a_deep_one(self):
        rows = build(*self.nested(8), (LIST, 0), record(), (SIZES,))
        self.assertEqual(rows[-3:-1], [[0], [0]])
        self.assertEqual(rows[-1][0], 3)

    def test_copied(self):
        """A copy counts with the depth of what was copied."""
        for depth in range(1, 9):
            calls = self.nested(depth) + [(ADOPT,), (BEGIN,), (COPY, 8)] + [(LIST, 1)] * (8 - depth)
            rows = build(*calls, (LIST, 1), (SIZES,))
            self.assertEqual(rows[:-2], [[0]] * len(calls))
            self.assertEqual(rows[-2], [-2])
            self.assertEqual(rows[-1][0], 1)

    def test_copied_from_within(self):
        rows = build(*self.nested(8), (ADOPT,), (BEGIN,), (COPY, 16), (LIST, 1), (LIST, 1), (FINISH,))
        self.assertEqual(rows[-4:-1], [[0], [0], [-2]])


class ToldFirst(unittest.TestCase):
    """-1 is answered where -2 would be due too."""

    def test_list_of_too_many(self):
        for before in ([putbytes([])] * 16, [of_size(504)], [of_size(252)] * 2):
            for k in (len(before) + 1, 17, 600, TOP):
                rows = build(*before, (LIST, k), (SIZES,))
                self.assertEqual(rows[len(before)], [-1])

    def test_record_of_too_many(self):
        for before in ([putbytes([])] * 16, [of_size(504)], [of_size(252)] * 2, [], [putnumber(1)]):
            for count in (len(before) + 1, 17, 63, 64, 126, 600):
                rows = build(*before, record(*range(count)), (SIZES,))
                self.assertEqual(rows[len(before)], [-1])

    def test_record_of_keys_that_do_not_rise(self):
        for before in ([putbytes([])] * 14 + [of_size(224)] * 2, [of_size(252)] * 2):
            rows = build(*before, record(1, 2), record(2, 2), record(2, 1), record(*[5] * 600), (SIZES,))
            self.assertEqual(rows[len(before):],
                             [[-2], [-1], [-1], [-1], [len(before), 504]])

    def test_record_of_one_too_deep_and_wrong_keys(self):
        deep = calls_for([[[[[[[7]]]]]]])
        rows = build(*deep, putnumber(1), record(1, 2), record(1, 1), record(2, 1), record(1, 2, 3))
        self.assertEqual(rows[len(deep) + 1:], [[-2], [-1], [-1], [-1]])

    def test_copy_of_none(self):
        for before in ([putbytes([])] * 16, [of_size(504)]):
            rows = ask(DATA, *before, *[(COPY, at) for at in (0, 4, 9, 16, 44, 68, TOP)], (COPY, 64))
            self.assertEqual(rows[len(before):], [[-1]] * 7 + [[-2]])
