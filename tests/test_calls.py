"""Each call at ordinary messages: P1."""

import unittest

from flatmessages.messages import answers
from makers import (BYTES, CHECK, COUNT, DEPTH, FIELD, ITEM, KIND, NUMBER, TOP, ask, bytes_value,
                    list_value, load, message, number_value, one, record_value)

# 8 record, 28 list, 40 number, 52 bytes.
ORDINARY = message(record_value((3, 28), (700, 52)), list_value(40, 52),
                   number_value(5 * 2 ** 32 + 6), bytes_value([9, 8, 7, 6, 5]))
REC, LST, NUM, BYT = 8, 28, 40, 52


class EachCall(unittest.TestCase):
    def test_check(self):
        self.assertEqual(one(ORDINARY, CHECK), [8])

    def test_kind(self):
        self.assertEqual(ask(ORDINARY, (KIND, NUM), (KIND, BYT), (KIND, LST), (KIND, REC)),
                         [[1], [2], [3], [4]])

    def test_number(self):
        self.assertEqual(ask(ORDINARY, (NUMBER, NUM), (NUMBER, BYT), (NUMBER, LST), (NUMBER, REC)),
                         [[0, 5, 6], [-2], [-2], [-2]])

    def test_bytes(self):
        self.assertEqual(ask(ORDINARY, (BYTES, NUM), (BYTES, BYT), (BYTES, LST), (BYTES, REC)),
                         [[-2], [5, 56, 9, 8, 7, 6, 5], [-2], [-2]])

    def test_count(self):
        self.assertEqual(ask(ORDINARY, (COUNT, NUM), (COUNT, BYT), (COUNT, LST), (COUNT, REC)),
                         [[-2], [5], [2], [2]])

    def test_item(self):
        self.assertEqual(ask(ORDINARY, (ITEM, LST, 0), (ITEM, LST, 1), (ITEM, REC, 0), (ITEM, REC, 1)),
                         [[40, 0], [52, 0], [28, 3], [52, 700]])

    def test_item_refused(self):
        self.assertEqual(ask(ORDINARY, (ITEM, NUM, 0), (ITEM, BYT, 0), (ITEM, LST, 2),
                             (ITEM, REC, 2), (ITEM, LST, TOP), (ITEM, REC, TOP)),
                         [[-2], [-2], [-3], [-3], [-3], [-3]])

    def test_field(self):
        self.assertEqual(ask(ORDINARY, (FIELD, REC, 3), (FIELD, REC, 700)), [[28], [52]])

    def test_field_refused(self):
        self.assertEqual(ask(ORDINARY, (FIELD, NUM, 3), (FIELD, BYT, 3), (FIELD, LST, 3),
                             (FIELD, REC, 0), (FIELD, REC, 4), (FIELD, REC, 28), (FIELD, REC, TOP)),
                         [[-2], [-2], [-2], [-3], [-3], [-3], [-3]])

    def test_depth(self):
        self.assertEqual(ask(ORDINARY, (DEPTH, NUM), (DEPTH, BYT), (DEPTH, LST), (DEPTH, REC)),
                         [[1, 12], [1, 12], [2, 12 + 12 + 12], [3, 20 + 36 + 12]])


class Numbers(unittest.TestCase):
    def test_low_first(self):
        data = message([1, 0, 0, 0, 1, 2, 3, 4, 5, 6, 7, 8])
        self.assertEqual(one(data, NUMBER, 8), [0, 0x08070605, 0x04030201])

    def test_edges(self):
        for n in (0, 1, 2 ** 32 - 1, 2 ** 32, 2 ** 63, 2 ** 64 - 2 ** 32, 2 ** 64 - 1):
            high, low = divmod(n, 2 ** 32)
            self.assertEqual(one(message(number_value(n)), NUMBER, 8), [0, high, low])


class BytesOfEachLength(unittest.TestCase):
    def test_lengths(self):
        for length in list(range(10)) + [255, 256, 257, 499, 500]:
            row = [(7 * k + 1) % 256 for k in range(length)]
            data = message(bytes_value(row))
            self.assertEqual(ask(data, (BYTES, 8), (COUNT, 8), (DEPTH, 8), (CHECK,)),
                             [[length, 12] + row, [length],
                              [1, 4 + (length + 3) // 4 * 4], [8]])

    def test_place_of_the_first(self):
        data = message(list_value(16), bytes_value([1, 2]))
        self.assertEqual(one(data, BYTES, 16), [2, 20, 1, 2])

    def test_zeros_within(self):
        self.assertEqual(one(message(bytes_value([0, 0, 0])), BYTES, 8), [3, 12, 0, 0, 0])


class ListsAndRecords(unittest.TestCase):
    def test_of_none(self):
        for kind, value in ((3, list_value()), (4, record_value())):
            self.assertEqual(ask(message(value), (CHECK,), (KIND, 8), (COUNT, 8), (DEPTH, 8),
                                 (ITEM, 8, 0), (ITEM, 8, TOP)),
                             [[8], [kind], [0], [1, 4], [-3], [-3]])
        self.assertEqual(ask(message(record_value()), (FIELD, 8, 0), (FIELD, 8, TOP)), [[-3], [-3]])

    def test_edge_keys(self):
        data = message(record_value((0, 28), (TOP, 32)), list_value(), list_value())
        self.assertEqual(ask(data, (FIELD, 8, 0), (FIELD, 8, TOP), (FIELD, 8, 1), (FIELD, 8, TOP - 1),
                             (ITEM, 8, 0), (ITEM, 8, 1)),
                         [[28], [32], [-3], [-3], [28, 0], [32, TOP]])

    def test_keys_use_all_four_bytes(self):
        keys = [1, 256, 65536, 16777216, 16777217]
        data = message(record_value(*[(key, 52 + 4 * k) for k, key in enumerate(keys)]),
                       *[list_value()] * 5)
        for k, key in enumerate(keys):
            self.assertEqual(ask(data, (FIELD, 8, key), (ITEM, 8, k)), [[52 + 4 * k], [52 + 4 * k, key]])
        self.assertEqual(one(data, FIELD, 8, 2), [-3])

    def test_longest(self):
        full = message(list_value(*[508] * 124), list_value())
        self.assertEqual(len(full), 512)
        self.assertEqual(ask(full, (CHECK,), (COUNT, 8), (ITEM, 8, 123), (ITEM, 8, 124), (DEPTH, 8)),
                         [[8], [124], [508, 0], [-3], [2, 4 + 124 * 8]])
        full = message(record_value(*[(k, 508) for k in range(62)]), list_value())
        self.assertEqual(len(full), 512)
        self.assertEqual(ask(full, (CHECK,), (COUNT, 8), (ITEM, 8, 61), (ITEM, 8, 62), (FIELD, 8, 61),
                             (FIELD, 8, 62), (DEPTH, 8)),
                         [[8], [62], [508, 61], [-3], [508], [-3], [2, 4 + 62 * 12]])


class OneList(unittest.TestCase):
    def test_numbers_one_by_one(self):
        calls = load(ORDINARY) + [1, 2, REC, 3, NUM, 3, LST, 4, BYT, 5, LST, 6, REC, 1, 6, REC, 2,
                                  7, REC, 700, 8, REC, 8, 9]
        self.assertEqual(answers(calls), [1, 0, 1, 8, 1, 4, 3, 0, 5, 6, 1, -2,
                                          7, 5, 56, 9, 8, 7, 6, 5, 1, 2, 2, 52, 700, 1, -3,
                                          1, 52, 2, 3, 68, 1, -1])

    def test_one_call(self):
        self.assertEqual(answers([1]), [1, -1])
        self.assertEqual(answers([0, 0]), [1, 0])

    def test_two_hundred_calls(self):
        self.assertEqual(answers(load(ORDINARY) + [6, REC, 1] * 199), [1, 0] + [2, 52, 700] * 199)

    def test_thirty_thousand_numbers(self):
        data = message(bytes_value([1] * 500)) + [0] * 76
        calls = (load(data) + [1]) * 50
        self.assertLessEqual(len(calls), 30000)
        self.assertEqual(answers(calls), [1, 0, 1, -1] * 50)
