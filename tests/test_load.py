"""load, and what a message is: P1, P5."""

import unittest

from flatmessages.messages import answers
from makers import (BYTES, CHECK, DEPTH, KIND, LOAD, MARK, NUMBER, TOP, apart, ask, bytes_value,
                    every_call_at, list_value, load, message, number_value, one)


def of_length(length):
    """A list of no elements at 8, and bytes in no value behind it."""
    return message(list_value(), [7] * (length - 12))


class Lengths(unittest.TestCase):
    def test_load_answers_0(self):
        for length in (0, 1, 7, 8, 12, 511, 512, 513, 599, 600):
            self.assertEqual(answers([LOAD, length] + [255] * length), [1, 0])
        for length in (12, 512, 513, 600):
            self.assertEqual(answers(load(of_length(length))), [1, 0])

    def test_up_to_512(self):
        for length in (12, 13, 511, 512):
            self.assertEqual(ask(of_length(length), (CHECK,), (KIND, 8), (DEPTH, 8)), [[8], [3], [1, 4]])

    def test_above_512(self):
        for length in (513, 514, 516, 600):
            rows = ask(of_length(length), (CHECK,), *every_call_at(8))
            self.assertEqual(rows, [[-1]] * len(rows))

    def test_below_8(self):
        for length in range(8):
            rows = ask(of_length(12)[:length], (CHECK,), *every_call_at(8), *every_call_at(0))
            self.assertEqual(rows, [[-1]] * len(rows))

    def test_of_8(self):
        for root in (0, 4, 8, TOP):
            rows = ask(message(root=root), (CHECK,), *every_call_at(8), *every_call_at(4))
            self.assertEqual(rows, [[-1]] * len(rows))


class FirstFour(unittest.TestCase):
    def test_the_mark(self):
        self.assertEqual(MARK, [70, 77, 48, 49])

    def test_one_wrong_byte(self):
        for data in (message(number_value(1)), message(list_value(16), bytes_value([1, 2]))):
            self.assertEqual(one(data, CHECK), [8])
            for k in range(4):
                for wrong in (0, data[k] - 1, data[k] + 1, 255):
                    changed = data[:k] + [wrong] + data[k + 1:]
                    rows = ask(changed, (CHECK,), *every_call_at(8))
                    self.assertEqual(rows, [[-1]] * len(rows))

    def test_two_changed_over(self):
        data = message(number_value(1))
        self.assertEqual(one([data[1], data[0]] + data[2:], CHECK), [-1])


class BeforeAndAgain(unittest.TestCase):
    def test_before_any_load(self):
        for at in (0, 4, 8, 12, 508, TOP):
            calls = [n for call in [(CHECK,)] + every_call_at(at) for n in call]
            rows = apart(answers(calls))
            self.assertEqual(rows, [[-1]] * 8)

    def test_second_takes_the_place(self):
        first, second = message(number_value(7)), message(bytes_value([1, 2, 3]))
        rows = apart(answers(load(first) + [NUMBER, 8, CHECK] + load(second) + [NUMBER, 8, BYTES, 8, CHECK]))
        self.assertEqual(rows, [[0], [0, 0, 7], [8], [0], [-2], [3, 12, 1, 2, 3], [8]])

    def test_nothing_stays_of_a_longer_one(self):
        long = message(list_value(16), number_value(1))
        rows = apart(answers(load(long) + [CHECK] + load(long[:16]) + [CHECK, KIND, 16]))
        self.assertEqual(rows, [[0], [8], [0], [-1], [-1]])

    def test_no_bytes_again(self):
        rows = apart(answers(load(message(number_value(1))) + [LOAD, 0, CHECK, KIND, 8]))
        self.assertEqual(rows, [[0], [0], [-1], [-1]])

    def test_no_message_again(self):
        data = message(number_value(1))
        rows = apart(answers(load(data) + load(data + [0] * 580) + [CHECK, KIND, 8] + load(data) + [CHECK]))
        self.assertEqual(rows, [[0], [0], [-1], [-1], [0], [8]])
