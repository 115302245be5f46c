"""What holds of answers whatever the calls: the order of refusals, and P5."""

import contextlib
import io
import unittest

from flatmessages import messages
from flatmessages.messages import answers
from makers import (BYTES, CHECK, COUNT, DEPTH, FIELD, ITEM, KIND, NUMBER, TOP, apart, ask, bytes_value,
                    every_call_at, list_value, load, message, number_value, record_value)

DATA = message(record_value((3, 28), (700, 52)), list_value(40, 52),
               number_value(5 * 2 ** 32 + 6), bytes_value([9, 8, 7, 6, 5]))
ASKING = [(CHECK,)] + [call for at in (8, 28, 40, 52, 56, 9, TOP) for call in every_call_at(at)]


class ToldFirst(unittest.TestCase):
    def test_1_before_2(self):
        """What stands there would be refused by -2 too, were it right."""
        number_of_count = message([1, 1, 0, 0] + [0] * 8)
        self.assertEqual(ask(number_of_count, (BYTES, 8), (COUNT, 8), (ITEM, 8, 0), (FIELD, 8, 0)), [[-1]] * 4)
        wrong_filling = message([2, 1, 0, 0, 1, 1, 0, 0])
        self.assertEqual(ask(wrong_filling, (NUMBER, 8), (ITEM, 8, 0), (FIELD, 8, 0)), [[-1]] * 3)
        wrong_list = message(list_value(8))
        self.assertEqual(ask(wrong_list, (NUMBER, 8), (BYTES, 8), (FIELD, 8, 0)), [[-1]] * 3)
        wrong_record = message(record_value((1, 8)))
        self.assertEqual(ask(wrong_record, (NUMBER, 8), (BYTES, 8)), [[-1]] * 2)

    def test_1_before_3(self):
        self.assertEqual(ask(message(list_value(8)), (ITEM, 8, 1), (ITEM, 8, TOP)), [[-1]] * 2)
        self.assertEqual(ask(message(record_value((1, 8))), (ITEM, 8, 1), (FIELD, 8, 2)), [[-1]] * 2)

    def test_2_before_3(self):
        self.assertEqual(ask(DATA, (ITEM, 40, 0), (ITEM, 52, 0), (ITEM, 40, TOP), (ITEM, 52, TOP),
                             (FIELD, 28, 0), (FIELD, 40, TOP), (FIELD, 52, 0)), [[-2]] * 7)


class NothingChanges(unittest.TestCase):
    def test_what_is_handed_in(self):
        calls = load(DATA) + [n for call in ASKING for n in call] + load([1, 2, 3]) + [CHECK]
        before = list(calls)
        answers(calls)
        self.assertEqual(calls, before)

    def test_what_is_given_back_is_new(self):
        calls = load(DATA) + [BYTES, 52]
        first = answers(calls)
        kept = list(first)
        first.clear()
        self.assertEqual(answers(calls), kept)

    def test_the_same_twice(self):
        for call in ASKING:
            once, again = ask(DATA, call, call)
            self.assertEqual(once, again)
            self.assertEqual(ask(DATA, call), [once])

    def test_a_call_that_asks_or_is_refused(self):
        """Behind any call every other answers as it does straight after load."""
        alone = ask(DATA, *ASKING)
        for call in ASKING:
            self.assertEqual(ask(DATA, call, *ASKING)[1:], alone)

    def test_nothing_is_kept(self):
        answers(load(DATA))
        self.assertEqual(answers([CHECK]), [1, -1])
        self.assertEqual(apart(answers([KIND, 8, DEPTH, 8])), [[-1], [-1]])
        self.assertEqual(answers(load(DATA) + [CHECK]), answers(load(DATA) + [CHECK]))

    def test_constants_stay(self):
        before = {name: repr(value) for name, value in vars(messages).items() if name.isupper()}
        answers(load(DATA) + [n for call in ASKING for n in call])
        after = {name: repr(value) for name, value in vars(messages).items() if name.isupper()}
        self.assertEqual(before, after)


class Kinds(unittest.TestCase):
    def test_a_list_of_whole_numbers(self):
        given = answers(load(DATA) + [n for call in ASKING for n in call])
        self.assertIs(type(given), list)
        for one in given:
            self.assertIs(type(one), int)

    def test_prints_nothing(self):
        out, err = io.StringIO(), io.StringIO()
        with contextlib.redirect_stdout(out), contextlib.redirect_stderr(err):
            answers(load(DATA) + [n for call in ASKING for n in call])
        self.assertEqual((out.getvalue(), err.getvalue()), ("", ""))
