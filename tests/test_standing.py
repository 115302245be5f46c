"""When a value stands right: P1."""

import unittest

from makers import (BYTES, COUNT, DEPTH, FIELD, ITEM, KIND, NUMBER, TOP, ask, bytes_value, every_call_at,
                    head, list_value, message, number_value, one, record_value, stands, word)


class Standing(unittest.TestCase):
    def assert_right(self, data, at, kind):
        self.assertEqual(one(data, KIND, at), [kind])

    def assert_wrong(self, data, at):
        rows = ask(data, *every_call_at(at))
        self.assertEqual(rows, [[-1]] * len(rows))


class Places(Standing):
    # Every four bytes are a list of none, wherever they begin at a multiple of 4.
    LISTS = message(*[list_value()] * 5)

    def test_right(self):
        for at in (8, 12, 16, 20, 24):
            self.assert_right(self.LISTS, at, 3)

    def test_last_four(self):
        self.assertEqual(len(self.LISTS), 28)
        self.assert_right(self.LISTS, 24, 3)
        self.assert_wrong(self.LISTS[:27], 24)
        self.assert_right(self.LISTS[:27], 20, 3)

    def test_last_four_but_more_to_come(self):
        for value in (head(1, 0), head(2, 1), head(3, 1), head(4, 1)):
            self.assert_wrong(message(value), 8)
        self.assert_right(message(head(2, 0)), 8, 2)
        self.assert_right(message(head(4, 0)), 8, 4)

    def test_last_four_of_512(self):
        data = message([0] * 500, list_value())
        self.assertEqual(len(data), 512)
        self.assert_right(data, 508, 3)
        self.assert_wrong(data, 512)

    def test_below_8(self):
        # As a root 3 is a list's four bytes: only its place is wrong.
        self.assert_wrong(message(list_value(), root=3), 4)
        for at in range(8):
            self.assert_wrong(self.LISTS, at)

    def test_no_multiple_of_4(self):
        data = message([3, 0, 0, 0, 0, 3, 0, 0, 0, 0, 3, 0, 0, 0, 0, 3, 0, 0, 0, 0])
        for at in (9, 10, 11, 13, 18, 23):
            self.assert_wrong(data, at)

    def test_beyond_the_end(self):
        for at in (28, 32, 512, 600, 65536 + 8, 2 ** 31 + 8, 4294967288, 4294967292, TOP):
            self.assert_wrong(self.LISTS, at)


class JustFits(Standing):
    def test_cut_off(self):
        behind = list_value()
        values = (number_value(2 ** 64 - 1), bytes_value([1]), bytes_value([1, 2, 3]),
                  bytes_value([1, 2, 3, 4]), bytes_value([1, 2, 3, 4, 5]), bytes_value([]),
                  list_value(), record_value(), list_value(12), list_value(12, 12),
                  record_value((1, 12)), record_value((1, 12), (2, 16)))
        for value in values:
            data = message(value)
            self.assert_right(data, 8, value[0])
            self.assert_right(data + behind, 8, value[0])
            for cut in range(1, len(value) + 1):
                self.assert_wrong(data[:-cut], 8)

    def test_at_the_end_of_512(self):
        for value in (number_value(3), bytes_value([1, 2, 3, 4, 5])):
            data = message([0] * (504 - len(value)), value)
            self.assertEqual(len(data), 512)
            self.assert_right(data, 512 - len(value), value[0])
            self.assert_wrong(data[:-1], 512 - len(value))
            self.assert_wrong(data[:-4], 512 - len(value))


class NumberCounts(Standing):
    def test_count_is_not_0(self):
        for count in (1, 2, 8, 255, 256, 65535, 65536, 16777215):
            self.assert_wrong(message(head(1, count) + [0] * 8, [0] * 400), 8)

    def test_any_eight_bytes(self):
        self.assertEqual(one(message(head(1, 0) + [255] * 8), NUMBER, 8), [0, TOP, TOP])


class Filling(Standing):
    def test_filling_is_not_zeros(self):
        for length in range(1, 12):
            filling = -length % 4
            for k in range(filling):
                for wrong in (1, 128, 255):
                    value = bytes_value([5] * length)
                    value[4 + length + k] = wrong
                    self.assert_wrong(message(value, [0] * 8), 8)

    def test_what_comes_behind_is_free(self):
        for length in range(12):
            data = message(bytes_value([5] * length), [255] * 4)
            self.assertEqual(one(data, BYTES, 8), [length, 12] + [5] * length)


class InnerPlaces(Standing):
    def containers(self, place, count):
        """Lists and records of so many places, this one first, second and so on."""
        for k in range(count):
            places = [32] * count
            places[k] = place
            yield list_value(*places)
            yield record_value(*enumerate(places))

    def assert_place(self, place, right, length):
        """Whether values at 24 stand right, with this place in them, in a message of this length."""
        for count in (1, 2):
            for value in self.containers(place, count):
                data = message([0] * 16, value)
                data = data + [0] * (length - len(data))
                self.assertEqual(len(data), length)
                if right:
                    self.assert_right(data, 24, value[0])
                else:
                    self.assert_wrong(data, 24)

    def test_own(self):
        self.assert_place(24, False, 64)

    def test_smaller(self):
        for place in (0, 4, 8, 12, 16, 20):
            self.assert_place(place, False, 64)

    def test_greater(self):
        for place in (28, 32, 36, 40, 56, 60):
            self.assert_place(place, True, 64)

    def test_no_multiple_of_4(self):
        for place in (25, 26, 27, 29, 30, 31, 57, 58, 59):
            self.assert_place(place, False, 64)

    def test_the_end(self):
        for length in (64, 65, 66, 67):
            self.assert_place(60, True, length)
            self.assert_place(64, False, length)
        self.assert_place(60, False, 63)
        self.assert_place(56, True, 63)
        self.assert_place(508, True, 512)
        self.assert_place(508, False, 511)
        self.assert_place(512, False, 512)

    def test_far_beyond(self):
        for place in (256 + 32, 65536 + 32, 16777216 + 32, 2 ** 31, TOP - 3, TOP):
            self.assert_place(place, False, 64)

    def test_what_stands_there_is_not_asked(self):
        data = message(list_value(12, 16), [255] * 4)
        self.assertEqual(ask(data, (KIND, 8), (COUNT, 8), (ITEM, 8, 1), (DEPTH, 8)),
                         [[3], [2], [16, 0], [-1]])
        data = message(record_value((5, 20)), [255] * 4)
        self.assertEqual(ask(data, (KIND, 8), (COUNT, 8), (ITEM, 8, 0), (FIELD, 8, 5), (DEPTH, 8)),
                         [[4], [1], [20, 5], [20], [-1]])

    def test_keys_are_no_places(self):
        data = message(record_value((1, 28), (TOP, 28)), list_value())
        self.assert_right(data, 8, 4)

    def test_bytes_and_numbers_have_no_places(self):
        self.assert_right(message(bytes_value([255] * 8)), 8, 2)
        self.assert_right(message(number_value(2 ** 64 - 1)), 8, 1)


class Keys(Standing):
    def record(self, *keys):
        return message(record_value(*[(key, 8 + 4 + 8 * len(keys)) for key in keys]), list_value())

    def test_rise(self):
        for keys in ((0,), (TOP,), (0, 1), (0, TOP), (255, 256), (65535, 65536), (1, 2, 3),
                     (TOP - 1, TOP), (2 ** 31 - 1, 2 ** 31), (2 ** 24, 2 ** 24 + 1)):
            self.assert_right(self.record(*keys), 8, 4)

    def test_equal(self):
        for keys in ((0, 0), (TOP, TOP), (1, 1, 2), (1, 2, 2), (5, 9, 9, 12), (256, 256)):
            self.assert_wrong(self.record(*keys), 8)

    def test_fall(self):
        for keys in ((1, 0), (TOP, 0), (256, 255), (2, 1, 3), (1, 3, 2), (2 ** 31, 2 ** 31 - 1),
                     (2 ** 24, 255), (1, 2, 3, 0)):
            self.assert_wrong(self.record(*keys), 8)

    def test_places_need_not_rise(self):
        self.assert_right(message(record_value((1, 32), (2, 28)), list_value(), list_value()), 8, 4)
        self.assert_right(message(list_value(24, 20), list_value(), list_value()), 8, 3)


class Kinds(Standing):
    def test_other_kinds(self):
        for kind in [0] + list(range(5, 256)):
            for count in (0, 1):
                self.assertFalse(stands(message(head(kind, count) + word(20) + word(20), [0] * 20), 8))
        for kind in (0, 5, 255):
            self.assert_wrong(message(head(kind, 0) + [0] * 8), 8)


class LongCounts(Standing):
    def test_second_byte(self):
        data = message(bytes_value([3] * 256))
        self.assertEqual(data[8:12], [2, 0, 1, 0])
        self.assertEqual(one(data, BYTES, 8), [256, 12] + [3] * 256)
        self.assert_wrong(data[:-1], 8)
        self.assert_wrong(message(head(3, 256) + [0] * 480), 8)
        self.assert_wrong(message(head(4, 256) + [0] * 480), 8)

    def test_third_byte(self):
        for kind in (2, 3, 4):
            for count in (65536, 65537, 65540, 16777215, 16777212, 8388608):
                self.assert_wrong(message(head(kind, count) + [0] * 500), 8)

    def test_bytes_up_to_500(self):
        self.assertEqual(one(message(bytes_value([3] * 500)), DEPTH, 8), [1, 504])
        for count in (501, 504, 511, 512):
            self.assert_wrong(message(head(2, count) + [0] * 500), 8)
