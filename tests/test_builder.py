"""The builder's calls at ordinary builders: P1, P3."""

import unittest

from flatmessages.messages import answers
from makers import (ADOPT, BEGIN, CHECK, COPY, FINISH, LIST, MARK, NUMBER, PUTBYTES, PUTNUMBER, RECORD, SIZES, TOP,
                    build, bytes_value, calls_for, finished, list_value, load, message, number_value, putbytes,
                    putnumber, record, record_value)


class NewObject(unittest.TestCase):
    def test_sizes(self):
        self.assertEqual(answers([SIZES]), [2, 0, 0])

    def test_finish_and_adopt(self):
        self.assertEqual(answers([FINISH]), [1, -1])
        self.assertEqual(answers([ADOPT]), [1, -1])

    def test_list_of_0(self):
        self.assertEqual(build((LIST, 0), (SIZES,), (FINISH,)),
                         [[0], [1, 4], [12] + MARK + [8, 0, 0, 0, 3, 0, 0, 0]])

    def test_record_of_no_keys(self):
        self.assertEqual(build(record(), (SIZES,), (FINISH,)),
                         [[0], [1, 4], [12] + MARK + [8, 0, 0, 0, 4, 0, 0, 0]])

    def test_list_of_1(self):
        self.assertEqual(build((LIST, 1), (SIZES,)), [[-1], [0, 0]])

    def test_record_of_1(self):
        self.assertEqual(build(record(5), (SIZES,)), [[-1], [0, 0]])

    def test_copy(self):
        self.assertEqual(build((COPY, 8), (COPY, 0), (COPY, TOP), (SIZES,)), [[-1], [-1], [-1], [0, 0]])

    def test_begin(self):
        self.assertEqual(build((BEGIN,), (SIZES,)), [[0], [0, 0]])


class AsTheyStand(unittest.TestCase):
    def test_number_by_number(self):
        calls = [9,
                 10, 1, 2,
                 11, 3, 5, 6, 7,
                 15,
                 12, 2,
                 15,
                 16,
                 17,
                 1,
                 14, 32,
                 13, 2, 4, 700,
                 16]
        self.assertEqual(answers(calls), [
            1, 0,
            1, 0,
            1, 0,
            2, 2, 20,
            1, 0,
            2, 1, 32,
            41, 40, 70, 77, 48, 49, 8, 0, 0, 0,
            3, 2, 0, 0, 20, 0, 0, 0, 32, 0, 0, 0,
            1, 0, 0, 0, 2, 0, 0, 0, 1, 0, 0, 0,
            2, 3, 0, 0, 5, 6, 7, 0,
            1, 0,
            1, 8,
            1, 0,
            1, 0,
            69, 68, 70, 77, 48, 49, 8, 0, 0, 0,
            4, 2, 0, 0, 4, 0, 0, 0, 28, 0, 0, 0, 188, 2, 0, 0, 60, 0, 0, 0,
            3, 2, 0, 0, 40, 0, 0, 0, 52, 0, 0, 0,
            1, 0, 0, 0, 2, 0, 0, 0, 1, 0, 0, 0,
            2, 3, 0, 0, 5, 6, 7, 0,
            2, 3, 0, 0, 5, 6, 7, 0])

    def test_among_calls_that_read(self):
        data = message(list_value(16), number_value(9))
        rows = build((NUMBER, 16), putnumber(3), load(data), (NUMBER, 16), (SIZES,), (CHECK,), (COPY, 16),
                     (NUMBER, 16), (LIST, 2), (CHECK,), (ADOPT,), (NUMBER, 16), (NUMBER, 20), (NUMBER, 32), (FINISH,))
        self.assertEqual(rows, [[-1], [0], [0], [0, 0, 9], [1, 12], [8], [0],
                                [0, 0, 9], [0], [8], [0], [-1], [0, 0, 3], [0, 0, 9], finished([3, 9])])

    def test_a_row_may_look_like_calls(self):
        rows = build(putbytes([FINISH, ADOPT, BEGIN, SIZES]), (SIZES,), record(BEGIN), (SIZES,), (FINISH,))
        self.assertEqual(rows, [[0], [1, 8], [0], [1, 20], finished({9: bytes([16, 17, 9, 15])})])


class Numbers(unittest.TestCase):
    def test_high_and_low(self):
        for n in (0, 1, 2 ** 32 - 1, 2 ** 32, 2 ** 32 + 1, 2 ** 63, 2 ** 64 - 2 ** 32, 2 ** 64 - 1):
            high, low = divmod(n, 2 ** 32)
            rows = build((PUTNUMBER, high, low), (SIZES,), (FINISH,), (ADOPT,), (NUMBER, 8))
            self.assertEqual(rows, [[0], [1, 12],
                                    [20] + MARK + [8, 0, 0, 0, 1, 0, 0, 0] + list(n.to_bytes(8, "little")),
                                    [0], [0, high, low]])

    def test_each_byte_in_its_place(self):
        self.assertEqual(build((PUTNUMBER, 0x08070605, 0x04030201), (FINISH,))[1],
                         [20] + MARK + [8, 0, 0, 0, 1, 0, 0, 0, 1, 2, 3, 4, 5, 6, 7, 8])


class Rows(unittest.TestCase):
    def test_lengths(self):
        for length in list(range(10)) + [255, 256, 257, 499, 500]:
            row = [(7 * k + 1) % 256 for k in range(length)]
            size = 4 + (length + 3) // 4 * 4
            rows = build(putbytes(row), (SIZES,), (FINISH,))
            self.assertEqual(rows[:2], [[0], [1, size]])
            self.assertEqual(rows[2], [8 + size] + MARK + [8, 0, 0, 0, 2, length % 256, length // 256, 0] + row
                             + [0] * (size - 4 - length))

    def test_500_takes_all_room(self):
        self.assertEqual(build(putbytes([255] * 500), (SIZES,))[1], [1, 504])
        self.assertEqual(build(putbytes([255] * 497), (SIZES,))[1], [1, 504])
        self.assertEqual(build(putbytes([255] * 496), (SIZES,))[1], [1, 500])

    def test_501_and_more(self):
        for length in (501, 502, 504, 505, 512, 599, 600):
            self.assertEqual(build(putbytes([0] * length), (SIZES,), (FINISH,)), [[-2], [0, 0], [-1]])

    def test_zeros_within(self):
        self.assertEqual(build(putbytes([0, 0, 0]), (FINISH,))[1], [16] + MARK + [8, 0, 0, 0, 2, 3, 0, 0] + [0] * 4)


class Lists(unittest.TestCase):
    def test_the_last_become_one(self):
        for k in range(6):
            calls = [putnumber(n) for n in range(5)] + [(LIST, k), (SIZES,), (LIST, 6 - k), (FINISH,)]
            rows = build(*calls)
            self.assertEqual(rows[:5], [[0]] * 5)
            tree = list(range(5 - k)) + [list(range(5 - k, 5))]
            self.assertEqual(rows[5:], [[0], [6 - k, 60 + 4 + 4 * k], [0], finished(tree)])

    def test_just_as_many(self):
        for k in range(17):
            rows = build(*[(LIST, 0)] * k, (LIST, k), (SIZES,), (FINISH,))
            self.assertEqual(rows[k:], [[0], [1, 4 + 8 * k], finished([[]] * k)])

    def test_one_more(self):
        for k in range(17):
            rows = build(*[(LIST, 0)] * k, (LIST, k + 1), (SIZES,))
            self.assertEqual(rows[k:], [[-1], [k, 4 * k]])

    def test_far_more(self):
        for k in (600, 65536, 2 ** 31, 2 ** 32 - 2, 4294967295):
            self.assertEqual(build(putnumber(1), (LIST, k), (SIZES,), (FINISH,)),
                             [[0], [-1], [1, 12], finished(1)])

    def test_of_1(self):
        rows = build(putnumber(1), putnumber(2), (LIST, 1), (SIZES,), (LIST, 2), (FINISH,))
        self.assertEqual(rows[2:], [[0], [2, 12 + 20], [0], finished([1, [2]])])

    def test_each_kind_of_tree(self):
        trees = [7, b"abcde", [], {}, [1, b""], {0: [2], TOP: b"x"}]
        calls = [call for tree in trees for call in calls_for(tree)]
        self.assertEqual(build(*calls, (LIST, 6), (FINISH,))[-2:], [[0], finished(trees)])


class Records(unittest.TestCase):
    def test_the_last_become_one(self):
        for k in range(6):
            keys = [3 * n + 1 for n in range(k)]
            calls = [putnumber(n) for n in range(5)] + [record(*keys), (SIZES,), (LIST, 6 - k), (FINISH,)]
            tree = list(range(5 - k)) + [dict(zip(keys, range(5 - k, 5)))]
            self.assertEqual(build(*calls)[5:], [[0], [6 - k, 60 + 4 + 8 * k], [0], finished(tree)])

    def test_just_as_many(self):
        for k in range(17):
            rows = build(*[(LIST, 0)] * k, record(*range(k)), (SIZES,), (FINISH,))
            self.assertEqual(rows[k:], [[0], [1, 4 + 12 * k], finished({key: [] for key in range(k)})])

    def test_one_more(self):
        for k in range(17):
            rows = build(*[(LIST, 0)] * k, record(*range(k + 1)), (SIZES,))
            self.assertEqual(rows[k:], [[-1], [k, 4 * k]])

    def test_far_more(self):
        for k in (17, 100, 599, 600):
            rows = build(putnumber(1), putnumber(2), record(*range(k)), (SIZES,))
            self.assertEqual(rows[2:], [[-1], [2, 24]])

    def test_edge_keys(self):
        for keys in ((0,), (TOP,), (0, TOP), (0, 1), (TOP - 1, TOP), (255, 256), (65535, 65536),
                     (2 ** 24 - 1, 2 ** 24), (2 ** 31 - 1, 2 ** 31), (0, 1, 2)):
            trees = range(len(keys))
            rows = build(*[putnumber(n) for n in trees], record(*keys), (FINISH,))
            self.assertEqual(rows[-2:], [[0], finished(dict(zip(keys, trees)))])

    def test_keys_are_written_whole(self):
        rows = build(putbytes([]), record(0x04030201), (FINISH,))
        self.assertEqual(rows[2][9:], [4, 1, 0, 0, 1, 2, 3, 4, 20, 0, 0, 0, 2, 0, 0, 0])

    def test_equal_keys(self):
        for keys in ((0, 0), (TOP, TOP), (1, 1, 2), (1, 2, 2), (256, 256), (3, 5, 5, 9)):
            count = len(keys)
            rows = build(*[putnumber(1)] * count, record(*keys), (SIZES,))
            self.assertEqual(rows[count:], [[-1], [count, 12 * count]])

    def test_falling_keys(self):
        for keys in ((1, 0), (TOP, 0), (256, 255), (2, 1, 3), (1, 3, 2), (65536, 65535), (1, 2, 3, 0), (2 ** 31, 5)):
            count = len(keys)
            rows = build(*[putnumber(1)] * count, record(*keys), (SIZES,))
            self.assertEqual(rows[count:], [[-1], [count, 12 * count]])

    def test_each_kind_of_tree(self):
        trees = [7, b"abcde", [], {}, [1, b""], {0: [2], TOP: b"x"}]
        keys = [0, 1, 255, 256, 65536, TOP]
        calls = [call for tree in trees for call in calls_for(tree)]
        self.assertEqual(build(*calls, record(*keys), (FINISH,))[-2:], [[0], finished(dict(zip(keys, trees)))])


class Begin(unittest.TestCase):
    def test_empties_the_builder(self):
        for count in (1, 2, 16):
            rows = build(*[(LIST, 0)] * count, (BEGIN,), (SIZES,), (FINISH,), (ADOPT,), (LIST, 1), (LIST, 0), (SIZES,))
            self.assertEqual(rows[count:], [[0], [0, 0], [-1], [-1], [-1], [0], [1, 4]])

    def test_all_room_is_there_again(self):
        rows = build(putbytes([1] * 500), (BEGIN,), putbytes([2] * 500), (SIZES,), (FINISH,))
        self.assertEqual(rows[1:], [[0], [0], [1, 504], finished(bytes([2] * 500))])

    def test_the_bytes_stay(self):
        data = message(record_value((1, 20)), bytes_value([4]))
        rows = build(load(data), putnumber(2), (BEGIN,), (CHECK,), (4, 20), (COPY, 8), (FINISH,))
        self.assertEqual(rows[2:], [[0], [8], [1, 24, 4], [0], finished({1: b"\x04"})])

    def test_adopted_bytes_stay(self):
        rows = build(putnumber(2), (ADOPT,), (BEGIN,), (SIZES,), (CHECK,), (NUMBER, 8))
        self.assertEqual(rows[2:], [[0], [0, 0], [8], [0, 0, 2]])


class Load(unittest.TestCase):
    def test_leaves_the_builder(self):
        for data in ([], [1, 2, 3], message(number_value(1)), [255] * 600):
            rows = build(putnumber(2), (LIST, 1), load(data), (SIZES,), (FINISH,), load(data), putnumber(3), (SIZES,))
            self.assertEqual(rows[2:], [[0], [1, 20], finished([2]), [0], [0], [2, 32]])


class Sizes(unittest.TestCase):
    def test_after_each_call(self):
        rows = build((SIZES,), putnumber(1), (SIZES,), putbytes([1, 2, 3, 4, 5]), (SIZES,), (LIST, 0), (SIZES,),
                     record(), (SIZES,), (LIST, 2), (SIZES,), record(1, 9), (SIZES,), (LIST, 2), (SIZES,))
        self.assertEqual(rows[::2], [[0, 0], [1, 12], [2, 24], [3, 28], [4, 32], [3, 44], [2, 64], [1, 76]])
        self.assertEqual(rows[1::2], [[0]] * 7)


class Calls(unittest.TestCase):
    def test_numbers_of_the_calls(self):
        self.assertEqual([BEGIN, PUTNUMBER, PUTBYTES, LIST, RECORD, COPY, SIZES, FINISH, ADOPT], list(range(9, 18)))

    def test_as_many_as_200(self):
        calls = [call for n in range(50) for call in (putnumber(n), (FINISH,), (ADOPT,), (BEGIN,))]
        rows = build(*calls)
        self.assertEqual(rows[1::4], [finished(n) for n in range(50)])
