"""Values (points 1 and 2), and the octets of numbers and strings (point 3)."""

import copy
import unittest

from fieldtable.errors import FieldError, NoValue
from fieldtable.octets import are_fields, are_octets, is_field, is_setting, number_octets, string_octets
from tests.samples import ALLOWED, NO_OCTETS, ODD_THINGS, long_field


class Case(unittest.TestCase):
    def check_truths(self, function, truths, wrongs):
        for thing in truths:
            with self.subTest(true=thing):
                before = copy.deepcopy(thing)
                self.assertIs(function(thing), True)
                self.assertEqual(thing, before)
        for thing in wrongs:
            with self.subTest(false=thing):
                self.assertIs(function(thing), False)


class FieldTest(Case):
    def test_lengths(self):
        truths = [("a", ""), ("a" * 20, ""), ("a", "v" * 40), long_field(), (" ", " "), ("a" * 19, "v" * 39)]
        wrongs = [("", ""), ("", "v"), ("a" * 21, ""), ("a", "v" * 41), ("a" * 4000, ""), ("a", "v" * 4000)]
        self.check_truths(is_field, truths, wrongs)

    def test_each_ascii_character_and_some_beyond(self):
        self.assertEqual(len(ALLOWED), 43)
        for number in list(range(300)) + [0x17F, 0x660, 0x2010, 0x212A, 0xD800, 0xFF41, 0x1F600]:
            character = chr(number)
            with self.subTest(number=number):
                self.assertIs(is_field((character, "")), character in ALLOWED)
                self.assertIs(is_field(("a", character)), character in ALLOWED)
                self.assertIs(is_field(("ab" + character, "")), character in ALLOWED)
                self.assertIs(is_field(("a", character + "ab")), character in ALLOWED)

    def test_other_kinds(self):
        wrongs = [
            ["a", "b"], ("a",), ("a", "b", "c"), (("a", "b"),), ("a", None), (None, "b"), ("a", 1), (1, "b"),
            (b"a", "b"), ("a", b"b"), (["a"], "b"), ("a", ["b"]), (("a",), "b"), ("a", ()), ("a", True), ("a", {}),
            {"a": "b"}, "ab", {"a", "b"}, [("a", "b")],
        ]
        self.check_truths(is_field, [("a", "b")], wrongs + ODD_THINGS)


class FieldsTest(Case):
    def test_numbers_of_fields(self):
        field = ("a", "b")
        truths = [(), (field,), (field,) * 15, (field,) * 16, (long_field(),) * 16]
        wrongs = [(field,) * 17, (field,) * 2000]
        self.check_truths(are_fields, truths, wrongs)

    def test_one_bad_field_anywhere(self):
        for at in range(16):
            for bad in [("", "b"), ("a", "v" * 41), ["a", "b"], ("a",), None, "ab", ("A", "b"), ()]:
                fields = [("a", "b")] * 16
                fields[at] = bad
                with self.subTest(at=at, bad=bad):
                    self.assertIs(are_fields(tuple(fields)), False)

    def test_other_kinds(self):
        wrongs = [[], [("a", "b")], ("a", "b"), {("a", "b"): 1}, {("a", "b")}, iter(())]
        self.check_truths(are_fields, [()], wrongs + [thing for thing in ODD_THINGS if thing != ()])
        self.assertIs(are_fields([("a", "b")] * 3), False)


class SettingTest(Case):
    def test_bounds(self):
        field = ("a", "b")
        truths = [
            ((), 0, 0), ((), 120, 4), ((field,) * 12, 60, 1), ((field,), 1, 3), ((field,) * 11, 119, 2),
            ((long_field(),) * 12, 0, 4),
        ]
        wrongs = [
            ((field,) * 13, 60, 1), ((field,) * 16, 60, 1), ((), 121, 1), ((), -1, 1), ((), 60, 5), ((), 60, -1),
            ((), 10 ** 20, 1), ((), -10 ** 20, 1), ((), 60, 10 ** 20), ((), 60, -10 ** 20),
        ]
        self.check_truths(is_setting, truths, wrongs)

    def test_all_rooms_and_waitings(self):
        for room in range(-3, 125):
            self.assertIs(is_setting(((), room, 2)), 0 <= room <= 120)
        for waiting in range(-3, 9):
            self.assertIs(is_setting(((), 9, waiting)), 0 <= waiting <= 4)

    def test_other_kinds(self):
        field = ("a", "b")
        wrongs = [
            [(), 60, 1], ([], 60, 1), ([field], 60, 1), ((), 60), ((), 60, 1, 1), ((), True, 1), ((), False, 1),
            ((), 60, True), ((), 60, False), ((), 60.0, 1), ((), 60, 1.0), ((), "60", 1), ((), 60, "1"), ((), None, 1),
            ((), 60, None), (None, 60, 1), (field, 60, 1), ((("", "b"),), 60, 1), ((field, ("a", "v" * 41)), 60, 1),
            ((["a", "b"],), 60, 1), ((field,) * 11 + (("a" * 21, ""),), 60, 1), {}, (60, (), 1), ("", 60, 1),
            ({}, 60, 1), ((), [60], 1), ((), 60, (1,)),
        ]
        self.check_truths(is_setting, [((), 60, 1)], wrongs + ODD_THINGS)


class OctetsTest(Case):
    def test_octets(self):
        truths = [[], [0], [255], [0, 255], list(range(256)), [7] * 2000]
        self.check_truths(are_octets, truths, NO_OCTETS)

    def test_one_bad_octet_anywhere(self):
        for at in range(5):
            for bad in (-1, 256, True, False, 1.0, None, "1", [1]):
                octets = [1, 2, 3, 4, 5]
                octets[at] = bad
                with self.subTest(at=at, bad=bad):
                    self.assertIs(are_octets(octets), False)

    def test_other_kinds(self):
        self.check_truths(are_octets, [[]], [thing for thing in ODD_THINGS if thing not in ([], [0])])


class NumberOctetsTest(unittest.TestCase):
    def test_written_out(self):
        for number, prefix, mark, octets in [
            (0, 8, 0, [0]), (254, 8, 0, [254]), (255, 8, 0, [255, 0]), (256, 8, 0, [255, 1]),
            (382, 8, 0, [255, 127]), (383, 8, 0, [255, 128, 1]), (9999, 8, 0, [255, 144, 76]),
            (126, 7, 0, [126]), (127, 7, 0, [127, 0]), (254, 7, 128, [255, 127]), (255, 7, 128, [255, 128, 1]),
            (62, 6, 192, [254]), (63, 6, 192, [255, 0]), (190, 6, 192, [255, 127]), (191, 6, 192, [255, 128, 1]),
            (30, 5, 32, [62]), (31, 5, 32, [63, 0]), (158, 5, 32, [63, 127]), (159, 5, 32, [63, 128, 1]),
            (14, 4, 96, [110]), (15, 4, 96, [111, 0]), (142, 4, 96, [111, 127]), (143, 4, 96, [111, 128, 1]),
            (6, 3, 64, [70]), (7, 3, 64, [71, 0]), (134, 3, 64, [71, 127]), (135, 3, 64, [71, 128, 1]),
            (2, 2, 16, [18]), (3, 2, 16, [19, 0]), (130, 2, 16, [19, 127]), (131, 2, 16, [19, 128, 1]),
            (0, 1, 2, [2]), (1, 1, 2, [3, 0]), (128, 1, 2, [3, 127]), (129, 1, 2, [3, 128, 1]),
            (9999, 1, 0, [1, 142, 78]), (9999, 5, 32, [63, 240, 77]), (1337, 5, 64, [95, 154, 10]),
            (10, 5, 224, [234]), (130, 1, 254, [255, 129, 1]),
        ]:
            with self.subTest(number=number, prefix=prefix, mark=mark):
                self.assertEqual(number_octets(number, prefix, mark), octets)

    def test_bounds_of_each_prefix(self):
        for prefix in range(1, 9):
            full = 2 ** prefix - 1
            mark = 255 - full
            with self.subTest(prefix=prefix):
                self.assertEqual(number_octets(full - 1, prefix, mark), [mark + full - 1])
                self.assertEqual(number_octets(full, prefix, mark), [255, 0])
                self.assertEqual(number_octets(full + 1, prefix, mark), [255, 1])
                self.assertEqual(number_octets(full + 127, prefix, mark), [255, 127])
                self.assertEqual(number_octets(full + 128, prefix, mark), [255, 128, 1])
                self.assertEqual(number_octets(full + 255, prefix, mark), [255, 255, 1])
                self.assertEqual(number_octets(full + 256, prefix, mark), [255, 128, 2])
                self.assertEqual(number_octets(0, prefix, mark), [mark])
                self.assertEqual(len(number_octets(9999, prefix, mark)), 3)

    def test_each_number_adds_up_again(self):
        for prefix in range(1, 9):
            full = 2 ** prefix - 1
            for number in range(10000):
                first, *rest = number_octets(number, prefix, 0)
                worth = sum((octet & 127) * 128 ** at for at, octet in enumerate(rest))
                self.assertEqual(first + worth, number)
                self.assertEqual([octet >= 128 for octet in rest], [True] * (len(rest) - 1) + [False] * bool(rest))
                self.assertTrue((first == full) == bool(rest) and (len(rest) < 2 or rest[-1] > 0))

    def test_marks(self):
        for prefix in range(1, 9):
            for mark in range(-2, 260):
                good = 0 <= mark <= 255 and mark % 2 ** prefix == 0
                with self.subTest(prefix=prefix, mark=mark):
                    if good:
                        self.assertEqual(number_octets(0, prefix, mark), [mark])
                        self.assertEqual(string_octets("", prefix, mark), [mark])
                    else:
                        self.assertRaises(NoValue, number_octets, 0, prefix, mark)
                        self.assertRaises(NoValue, string_octets, "", prefix, mark)

    def test_no_number(self):
        for number in [-1, 10000, 10001, 10 ** 20, -10 ** 20, True, False, None, 1.0, "1", "", [], [1], (), {}, b"1"]:
            with self.subTest(number=number):
                self.assertRaises(NoValue, number_octets, number, 5, 0)

    def test_no_prefix(self):
        for prefix in [-1, 0, 9, 10 ** 20, -10 ** 20, True, False, None, 1.0, 5.0, "5", "", [5], (), {}, b"5"]:
            with self.subTest(prefix=prefix):
                self.assertRaises(NoValue, number_octets, 3, prefix, 0)
                self.assertRaises(NoValue, string_octets, "abc", prefix, 0)

    def test_no_mark(self):
        wrongs = [-1, -32, 256, 288, 1, 16, 31, 33, 255, 10 ** 20, -10 ** 20, True, False, None, 32.0, "32", "", [32], ()]
        for mark in wrongs:
            with self.subTest(mark=mark):
                self.assertRaises(NoValue, number_octets, 3, 5, mark)
                self.assertRaises(NoValue, string_octets, "abc", 5, mark)

    def test_each_list_is_new(self):
        for number in (3, 31, 9999):
            first = number_octets(number, 5, 0)
            second = number_octets(number, 5, 0)
            self.assertIsNot(first, second)
            first.append(1)
            self.assertEqual(number_octets(number, 5, 0), second)


class StringOctetsTest(unittest.TestCase):
    def test_written_out(self):
        for text, prefix, mark, octets in [
            ("", 7, 0, [0]), ("a", 7, 0, [1, 97]), ("az09", 7, 128, [132, 97, 122, 48, 57]),
            ("-./:;= ", 4, 32, [39, 45, 46, 47, 58, 59, 61, 32]), ("", 1, 254, [254]), ("a", 1, 254, [255, 0, 97]),
            ("ab", 1, 0, [1, 1, 97, 98]), ("x" * 40, 7, 0, [40] + [120] * 40), ("x" * 40, 8, 0, [40] + [120] * 40),
            ("x" * 40, 5, 64, [95, 9] + [120] * 40), ("x" * 30, 5, 64, [94] + [120] * 30),
            ("x" * 31, 5, 64, [95, 0] + [120] * 31), ("x" * 15, 4, 32, [47, 0] + [120] * 15),
            ("x" * 14, 4, 32, [46] + [120] * 14), ("x" * 20, 4, 32, [47, 5] + [120] * 20),
        ]:
            with self.subTest(text=text, prefix=prefix):
                self.assertEqual(string_octets(text, prefix, mark), octets)

    def test_each_character(self):
        for number in list(range(300)) + [0x212A, 0xFF41, 0xD800, 0x1F600]:
            text = "a" + chr(number)
            with self.subTest(number=number):
                if chr(number) in ALLOWED:
                    self.assertEqual(string_octets(text, 7, 0), [2, 97, number])
                else:
                    self.assertRaises(NoValue, string_octets, text, 7, 0)

    def test_no_string(self):
        wrongs = ["x" * 41, "x" * 4000, "A", "a\n", None, 1, True, False, 1.0, b"", b"a", [], ["a"], (), ("a",), {}]
        for text in wrongs:
            with self.subTest(text=text):
                before = copy.deepcopy(text)
                self.assertRaises(NoValue, string_octets, text, 7, 0)
                self.assertEqual(text, before)

    def test_all_wrong_is_no_value_too(self):
        for function in (number_octets, string_octets):
            self.assertRaises(NoValue, function, None, None, None)
            self.assertRaises(NoValue, function, [], 0, 256)
        self.assertTrue(issubclass(NoValue, FieldError))

    def test_each_list_is_new(self):
        first = string_octets("abc", 7, 0)
        first.clear()
        self.assertEqual(string_octets("abc", 7, 0), [3, 97, 98, 99])

    def test_numbers_in_each_prefix_are_lengths(self):
        for prefix in range(1, 9):
            for length in range(41):
                expected = number_octets(length, prefix, 0) + [97] * length
                self.assertEqual(string_octets("a" * length, prefix, 0), expected)


if __name__ == "__main__":
    unittest.main()
