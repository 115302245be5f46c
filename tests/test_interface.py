"""What holds of answers whatever the calls: the order of refusals, and P5."""

import contextlib
import io
import unittest

from flatmessages import building, messages, reading, trees, wholes, words, writing
from flatmessages.messages import answers
from makers import (ADOPT, BEGIN, BYTES, CHECK, COPY, COUNT, DEPTH, FIELD, FINISH, ITEM, KIND, LIST, NUMBER, SIZES,
                    TOP, apart, ask, build, bytes_value, calls_for, every_call_at, list_value, load, message,
                    number_value, putbytes, putnumber, record, record_value)

DATA = message(record_value((3, 28), (700, 52)), list_value(40, 52),
               number_value(5 * 2 ** 32 + 6), bytes_value([9, 8, 7, 6, 5]))
ASKING = [(CHECK,)] + [call for at in (8, 28, 40, 52, 56, 9, TOP) for call in every_call_at(at)]

# Each call that does something, and some of them refused.
BUILDING = [putnumber(2 ** 40), putbytes([1, 2, 3]), (LIST, 2), (FINISH,), (ADOPT,), (COPY, 8), record(4, 9),
            (SIZES,), (LIST, 7), record(1), record(), record(2, 1), (COPY, 9), putbytes([0] * 600), record(5, 6),
            (FINISH,), (ADOPT,), (CHECK,), (BEGIN,), (SIZES,), (FINISH,), load(DATA), (COPY, 8), (FINISH,)]
ALL_CALLS = load(DATA) + [n for call in ASKING + BUILDING for n in call]


class ToldFirst(unittest.TestCase):
    def test_1_before_2(self):
        """What stands there would be refused by -2 too, were it right."""
        number_of_count = message([1, 1, 0, 0] + [0] * 8)
        self.assertEqual(ask(number_of_count, (BYTES, 8), (COUNT, 8), (ITEM, 8, 0), (FIELD, 8, 0)), [[-1]] * 4)
        wrong_filling = message([2, 1, 0, 0, 1, 1, 0, 0])
        self.assertEqual(ask(wrong_filling, (NUMBER, 8), (ITEM, 8, 0), (FIELD, 8, 0)), [[-1]] * 3)
        wrong_list = message(list_value(8))
        self.assertEqual(ask(wrong_list, (NUMBER, 8), (BYTES, 8), (FIELD, 8, 0)), [[-1]] * 3)
        wrong_record = message(record_value((1, 8)))
        self.assertEqual(ask(wrong_record, (NUMBER, 8), (BYTES, 8)), [[-1]] * 2)

    def test_1_before_3(self):
        self.assertEqual(ask(message(list_value(8)), (ITEM, 8, 1), (ITEM, 8, TOP)), [[-1]] * 2)
        self.assertEqual(ask(message(record_value((1, 8))), (ITEM, 8, 1), (FIELD, 8, 2)), [[-1]] * 2)

    def test_2_before_3(self):
        self.assertEqual(ask(DATA, (ITEM, 40, 0), (ITEM, 52, 0), (ITEM, 40, TOP), (ITEM, 52, TOP),
                             (FIELD, 28, 0), (FIELD, 40, TOP), (FIELD, 52, 0)), [[-2]] * 7)


class NothingChanges(unittest.TestCase):
    def test_what_is_handed_in(self):
        calls = ALL_CALLS + load([1, 2, 3]) + [CHECK]
        before = list(calls)
        answers(calls)
        self.assertEqual(calls, before)

    def test_what_is_given_back_is_new(self):
        calls = load(DATA) + [BYTES, 52]
        first = answers(calls)
        kept = list(first)
        first.clear()
        self.assertEqual(answers(calls), kept)

    def test_the_same_twice(self):
        for call in ASKING:
            once, again = ask(DATA, call, call)
            self.assertEqual(once, again)
            self.assertEqual(ask(DATA, call), [once])

    def test_a_call_that_asks_or_is_refused(self):
        """Behind any call every other answers as it does straight after load."""
        alone = ask(DATA, *ASKING)
        for call in ASKING:
            self.assertEqual(ask(DATA, call, *ASKING)[1:], alone)

    def test_nothing_is_kept(self):
        first = answers(ALL_CALLS)
        self.assertEqual(answers([CHECK]), [1, -1])
        self.assertEqual(answers([SIZES]), [2, 0, 0])
        self.assertEqual(answers([FINISH]), [1, -1])
        self.assertEqual(answers([ADOPT]), [1, -1])
        self.assertEqual(answers(ALL_CALLS), first)
        self.assertEqual(apart(answers([KIND, 8, DEPTH, 8])), [[-1], [-1]])
        self.assertEqual(answers(load(DATA) + [CHECK]), answers(load(DATA) + [CHECK]))

    def test_constants_stay(self):
        files = (building, messages, reading, trees, wholes, words, writing)
        before = [{name: repr(value) for name, value in vars(file).items() if name.isupper()} for file in files]
        answers(ALL_CALLS)
        after = [{name: repr(value) for name, value in vars(file).items() if name.isupper()} for file in files]
        self.assertEqual(before, after)


class RefusedByTheBuilder(unittest.TestCase):
    """After each refusal of each call, and each call that asks, all is as it was."""

    DEEP = calls_for([[[[[[[7]]]]]]])
    FULL = [putbytes([]), putbytes([3] * 492), (LIST, 0)]
    MANY = [putbytes([n]) for n in range(16)]
    ONE = calls_for({1: [2, b"x"]})
    # The bytes before a load, a message that is loaded, one whose root isn't whole, and one that is adopted.
    BYTES_BEFORE = ([], [load(DATA)], [load(message(list_value(12), [9, 0, 0, 0]))],
                    [putnumber(6), (ADOPT,), (BEGIN,)])

    def trees_seen(self, count):
        """Calls that show what the trees are, one tree or more of them."""
        return [(SIZES,), (FINISH,), (CHECK,), *every_call_at(8), *every_call_at(28),
                (LIST, count), (SIZES,), (FINISH,), (BEGIN,), (COPY, 8), (FINISH,)]

    def assert_nothing_changes(self, trees, count, call, due):
        for before in self.BYTES_BEFORE:
            seen = self.trees_seen(count)
            with_it = build(*before, *trees, call, *seen)
            without = build(*before, *trees, *seen)
            if due is not None:
                self.assertEqual(with_it[-len(seen) - 1], due)
            self.assertEqual(with_it[-len(seen):], without[-len(seen):])

    def test_begun(self):
        for call in ((LIST, 1), (LIST, TOP), record(1), record(*range(600)), (COPY, 9), (COPY, TOP), (FINISH,), (ADOPT,)):
            self.assert_nothing_changes([], 0, call, [-1])
        self.assert_nothing_changes([], 0, putbytes([1] * 501), [-2])

    def test_one_tree(self):
        for call in ((LIST, 2), record(1, 2), record(2, 1), (COPY, 10)):
            self.assert_nothing_changes(self.ONE, 1, call, [-1])
        self.assert_nothing_changes(self.ONE, 1, putbytes([1] * 500), [-2])

    def test_two_trees(self):
        for call in ((LIST, 3), record(1, 1), record(2, 1), record(1, 2, 3), (COPY, 11), (FINISH,), (ADOPT,)):
            self.assert_nothing_changes(self.ONE + [putnumber(9)], 2, call, [-1])

    def test_too_deep(self):
        for call in ((LIST, 1), record(8)):
            self.assert_nothing_changes(self.DEEP, 0, call, [-2])
        for call in ((LIST, 2), record(8, 9)):
            self.assert_nothing_changes(self.DEEP + [putnumber(1)], 1, call, [-2])

    def test_full(self):
        for call in (putnumber(1), putbytes([]), (LIST, 0), record(), (LIST, 1), (LIST, 2), (LIST, 3), record(1),
                     record(1, 2), record(1, 2, 3)):
            self.assert_nothing_changes(self.FULL, 0, call, [-2])
        for call in ((LIST, 4), record(1, 1), record(1, 2, 3, 4), (COPY, 12 + 1), (FINISH,), (ADOPT,)):
            self.assert_nothing_changes(self.FULL, 0, call, [-1])

    def test_many(self):
        for call in (putnumber(1), putbytes([]), (LIST, 0), record()):
            self.assert_nothing_changes(self.MANY, 16, call, [-2])
        for call in ((LIST, 17), record(*range(17)), record(*[4] * 16), (FINISH,), (ADOPT,)):
            self.assert_nothing_changes(self.MANY, 16, call, [-1])

    def test_copy_without_room(self):
        seen = self.trees_seen(16)
        with_it = ask(DATA, *self.MANY, (COPY, 8), *seen)
        self.assertEqual(with_it[16], [-2])
        self.assertEqual(with_it[17:], ask(DATA, *self.MANY, *seen)[16:])

    def test_calls_that_ask(self):
        for trees, count in (([], 0), (self.ONE, 1), (self.DEEP, 0), (self.FULL, 0), (self.MANY, 16)):
            for call in [(SIZES,), (CHECK,), (ITEM, 8, 1), *every_call_at(8), *every_call_at(9)]:
                self.assert_nothing_changes(trees, count, call, None)
        for trees, count in ((self.ONE, 1), (self.DEEP, 0)):
            self.assert_nothing_changes(trees, count, (FINISH,), None)


class Kinds(unittest.TestCase):
    def test_a_list_of_whole_numbers(self):
        given = answers(ALL_CALLS)
        self.assertIs(type(given), list)
        for one in given:
            self.assertIs(type(one), int)

    def test_prints_nothing(self):
        out, err = io.StringIO(), io.StringIO()
        with contextlib.redirect_stdout(out), contextlib.redirect_stderr(err):
            answers(ALL_CALLS)
        self.assertEqual((out.getvalue(), err.getvalue()), ("", ""))
