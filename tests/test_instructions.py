"""Instructions and answers (points 4, 5 and 7)."""

import copy
import unittest

from fieldtable.errors import NoOctetList, NoOctets, NoValue
from fieldtable.instructions import is_answer, is_instruction, read_answer, read_instruction
from fieldtable.instructions import write_answer, write_instruction
from tests.samples import ALLOWED, NO_OCTETS, ODD_THINGS, bounds

WRITTEN_INSTRUCTIONS = [
    (("fixed", 0, ""), [192, 0]), (("fixed", 3, "x"), [195, 1, 120]), (("fixed", 62, ""), [254, 0]),
    (("fixed", 63, ""), [255, 0, 0]), (("fixed", 190, "ab"), [255, 127, 2, 97, 98]),
    (("fixed", 191, "ab"), [255, 128, 1, 2, 97, 98]), (("fixed", 9999, "z"), [255, 208, 77, 1, 122]),
    (("entry", 0, ""), [128, 0]), (("entry", 5, "= "), [133, 2, 61, 32]), (("entry", 62, ""), [190, 0]),
    (("entry", 63, ""), [191, 0, 0]), (("entry", 190, ""), [191, 127, 0]), (("entry", 191, ""), [191, 128, 1, 0]),
    (("entry", 9999, "v" * 40), [191, 208, 77, 40] + [118] * 40),
    (("new", "a", "x"), [65, 97, 1, 120]), (("new", "a", ""), [65, 97, 0]),
    (("new", "n" * 20, "v" * 40), [84] + [110] * 20 + [40] + [118] * 40), (("new", " ", " "), [65, 32, 1, 32]),
    (("again", 0), [0]), (("again", 30), [30]), (("again", 31), [31, 0]), (("again", 158), [31, 127]),
    (("again", 159), [31, 128, 1]), (("again", 9999), [31, 240, 77]),
    (("limit", 0), [32]), (("limit", 30), [62]), (("limit", 31), [63, 0]), (("limit", 120), [63, 89]),
    (("limit", 158), [63, 127]), (("limit", 159), [63, 128, 1]), (("limit", 9999), [63, 240, 77]),
]

WRITTEN_ANSWERS = [
    (("done", 0), [128]), (("done", 5), [133]), (("done", 20), [148]),
    (("cancelled", 0), [64]), (("cancelled", 5), [69]), (("cancelled", 20), [84]),
    (("received", 1), [1]), (("received", 62), [62]), (("received", 63), [63, 0]), (("received", 64), [63, 1]),
    (("received", 190), [63, 127]), (("received", 191), [63, 128, 1]), (("received", 9999), [63, 208, 77]),
]

NO_INSTRUCTIONS = [
    # other words
    ("Fixed", 1, "x"), ("fixed ", 1, "x"), ("", 1, "x"), ("name", 1, "x"), ("old", "a", "x"), ("out", "a", "x"),
    ("done", 1), ("received", 1), ("cancelled", 1), ("", 1), ("table", 1), ("limits", 1), ("Again", 1),
    (None, 1), (1, 1), (True, 1), (["again"], 1), (("again",), 1), (b"again", 1), ({}, 1), ([], 1, "x"), (b"new", "a", ""),
    # parts left out or put in
    (), ("fixed",), ("fixed", 1), ("entry", 1), ("new", "a"), ("again",), ("limit",), ("fixed", 1, "x", "x"),
    ("entry", 1, "x", 1), ("new", "a", "x", "x"), ("again", 1, 1), ("again", 1, "x"), ("limit", 1, "x"),
    ("limit", 1, 1), ("new", "a", "x", ()), (("again", 1),), (1, "again"), ("x", 1, "fixed"), ("limit", 1, ""),
    # parts of another kind
    ("fixed", "1", "x"), ("fixed", True, "x"), ("fixed", False, "x"), ("fixed", 1.0, "x"), ("fixed", None, "x"),
    ("fixed", 1, 1), ("fixed", 1, None), ("fixed", 1, b"x"), ("fixed", 1, ["x"]), ("fixed", [1], "x"),
    ("entry", "1", "x"), ("entry", True, "x"), ("entry", 1, True), ("entry", 1, ("x",)), ("entry", "a", "x"),
    ("new", 1, "x"), ("new", "a", 1), ("new", True, "x"), ("new", b"a", "x"), ("new", "a", b"x"), ("new", None, "x"),
    ("new", ["a"], "x"), ("new", "a", None), ("again", "1"), ("again", True), ("again", False), ("again", None),
    ("again", [1]), ("again", 1.0), ("limit", "1"), ("limit", True), ("limit", False), ("limit", None),
    ("limit", (1,)), ("fixed", "a", "x"), ("new", ("a",), "x"),
    # parts out of range
    ("fixed", -1, "x"), ("fixed", 10000, "x"), ("fixed", 1, "v" * 41), ("fixed", 1, "X"), ("entry", -1, "x"),
    ("entry", 10000, "x"), ("entry", 1, "v" * 41), ("entry", 1, "_"), ("new", "", "x"), ("new", "n" * 21, "x"),
    ("new", "a", "v" * 41), ("new", "A", "x"), ("new", "a", "X"), ("new", "a\n", "x"), ("again", -1),
    ("again", 10000), ("limit", -1), ("limit", 10000), ("limit", 10 ** 20), ("again", -10 ** 20),
    # other kinds
    ["fixed", 1, "x"], ["again", 1], ["new", "a", "x"], {"again": 1}, "again", {"again", 1},
]

NO_ANSWERS = [
    ("Done", 1), ("", 1), ("again", 1), ("limit", 1), ("done ", 1), (None, 1), (1, 1), (["done"], 1), (b"done", 1),
    (), ("done",), ("cancelled",), ("received",), ("done", 1, 1), ("cancelled", 1, ""), ("received", 1, 1), (1, "done"),
    (("done", 1),), ("done", "1"), ("done", True), ("done", False), ("done", None), ("done", [1]), ("done", 1.0),
    ("cancelled", "1"), ("cancelled", True), ("cancelled", False), ("cancelled", None), ("cancelled", (1,)),
    ("received", "1"), ("received", True), ("received", None), ("received", {}), ("received", 1.0),
    ("done", -1), ("done", 21), ("done", 10 ** 20), ("cancelled", -1), ("cancelled", 21), ("cancelled", 63),
    ("received", 0), ("received", -1), ("received", 10000), ("received", 10 ** 20), ("received", -10 ** 20),
    ["done", 1], ["received", 1], {"done": 1}, "done", {"done", 1},
]


def all_instructions():
    found = [("fixed", number, "x") for number in bounds(6)]
    found += [("entry", number, "") for number in bounds(6)]
    found += [("again", number) for number in bounds(5)] + [("limit", number) for number in bounds(5)]
    found += [("new", "n" * length, "") for length in range(1, 21)]
    found += [("new", "a", "v" * length) for length in range(41)]
    found += [("new", character, character * 2) for character in ALLOWED]
    return found


def all_answers():
    found = [("done", stream) for stream in range(21)] + [("cancelled", stream) for stream in range(21)]
    return found + [("received", number) for number in bounds(6) if number > 0]


class Case(unittest.TestCase):
    def check_none(self, is_one, write, things):
        for thing in things:
            with self.subTest(thing=thing):
                before = copy.deepcopy(thing) if isinstance(thing, (list, tuple, dict, set)) else thing
                self.assertIs(is_one(thing), False)
                self.assertRaises(NoValue, write, thing)
                self.assertEqual(thing, before)

    def check_places(self, read, places):
        for octets, place in places:
            with self.subTest(octets=octets):
                before = list(octets)
                with self.assertRaises(NoOctets) as caught:
                    read(octets)
                self.assertEqual(caught.exception.place, place)
                self.assertEqual(octets, before)

    def check_no_octets(self, read):
        for thing in NO_OCTETS:
            with self.subTest(thing=thing):
                before = copy.deepcopy(thing)
                self.assertRaises(NoOctetList, read, thing)
                self.assertEqual(thing, before)


class InstructionTest(Case):
    def test_written_out(self):
        for instruction, octets in WRITTEN_INSTRUCTIONS:
            with self.subTest(instruction=instruction):
                before = list(octets)
                self.assertIs(is_instruction(instruction), True)
                self.assertEqual(write_instruction(instruction), octets)
                self.assertEqual(read_instruction(octets), instruction)
                self.assertEqual(octets, before)

    def test_what_is_written_is_read_again(self):
        for instruction in all_instructions():
            with self.subTest(instruction=instruction):
                self.assertIs(is_instruction(instruction), True)
                again = read_instruction(write_instruction(instruction))
                self.assertEqual(again, instruction)
                self.assertIs(type(again), tuple)
                self.assertEqual([type(part) for part in again], [type(part) for part in instruction])

    def test_none(self):
        self.check_none(is_instruction, write_instruction, NO_INSTRUCTIONS + ODD_THINGS)

    def test_each_list_is_new(self):
        for instruction, octets in WRITTEN_INSTRUCTIONS:
            first = write_instruction(instruction)
            self.assertIsNot(first, write_instruction(instruction))
            first.append(9)
            self.assertEqual(write_instruction(instruction), octets)

    def test_no_octet_list(self):
        self.check_no_octets(read_instruction)

    def test_cut_short(self):
        for instruction, octets in WRITTEN_INSTRUCTIONS:
            self.check_places(read_instruction, [(octets[:length], length) for length in range(len(octets))])

    def test_more_behind(self):
        for instruction, octets in WRITTEN_INSTRUCTIONS:
            more = [(octets + [octet], len(octets)) for octet in (0, 1, 32, 97, 128, 255)]
            self.check_places(read_instruction, more + [(octets + [0, 0], len(octets)), (octets * 2, len(octets))])

    def test_unknown_mark(self):
        self.check_places(read_instruction, [([octet, 97, 0], 0) for octet in range(96, 128)])
        self.check_places(read_instruction, [([octet], 0) for octet in range(96, 128)])

    def test_numbers_that_are_not_written_so(self):
        self.check_places(read_instruction, [
            ([31, 128, 0], 2), ([31, 129, 0], 2), ([31, 255, 0], 2), ([63, 128, 0], 2), ([31, 128, 128, 0], 2),
            ([191, 128, 0, 0], 2), ([255, 128, 0, 0], 2), ([255, 255, 0, 0], 2),
        ])

    def test_numbers_above_the_greatest(self):
        self.check_places(read_instruction, [
            ([31, 241, 77], 2), ([31, 240, 78], 2), ([31, 255, 127], 2), ([31, 128, 78], 2), ([31, 255, 77], 2),
            ([31, 128, 128, 1], 2), ([31, 255, 255, 255], 2), ([31, 255, 128], 2), ([63, 241, 77], 2), ([63, 240, 78], 2),
            ([63, 128, 128], 2), ([255, 209, 77], 2), ([255, 208, 78], 2), ([191, 209, 77], 2), ([191, 208, 78, 0], 2),
            ([31, 241], 2), ([31, 255], 2),
        ])
        self.assertEqual(read_instruction([31, 239, 77]), ("again", 9998))
        self.assertEqual(read_instruction([31, 255, 76]), ("again", 31 + 127 + 76 * 128))

    def test_names_too_short_or_too_long(self):
        self.check_places(read_instruction, [([64], 0), ([64, 0], 0), ([85], 0), ([94], 0), ([95], 0), ([95, 0], 0)])

    def test_values_too_long(self):
        self.check_places(read_instruction, [
            ([192, octet] + [97] * 45, 1) for octet in (41, 42, 64, 127, 128, 168, 255)
        ])
        self.check_places(read_instruction, [([65, 97, 41], 2), ([128, 127, 0], 1), ([128, 200], 1)])

    def test_characters(self):
        for octet in range(256):
            with self.subTest(octet=octet):
                if chr(octet) in ALLOWED:
                    self.assertEqual(read_instruction([66, 97, octet, 0]), ("new", "a" + chr(octet), ""))
                    self.assertEqual(read_instruction([192, 2, octet, 98]), ("fixed", 0, chr(octet) + "b"))
                else:
                    self.check_places(read_instruction, [([66, 97, octet, 0], 2), ([192, 2, octet, 98], 2)])
                    self.check_places(read_instruction, [([66, octet], 1), ([192, 2, 98, octet], 3)])

    def test_of_two_faults_the_first(self):
        self.check_places(read_instruction, [([66, 65, 65, 41], 1), ([31, 128, 0, 0], 2), ([65, 97, 41, 65], 2)])


class AnswerTest(Case):
    def test_written_out(self):
        for answer, octets in WRITTEN_ANSWERS:
            with self.subTest(answer=answer):
                before = list(octets)
                self.assertIs(is_answer(answer), True)
                self.assertEqual(write_answer(answer), octets)
                self.assertEqual(read_answer(octets), answer)
                self.assertEqual(octets, before)

    def test_what_is_written_is_read_again(self):
        for answer in all_answers():
            with self.subTest(answer=answer):
                self.assertIs(is_answer(answer), True)
                again = read_answer(write_answer(answer))
                self.assertEqual(again, answer)
                self.assertEqual([type(part) for part in again], [str, int])
                self.assertIs(type(again), tuple)

    def test_none(self):
        self.check_none(is_answer, write_answer, NO_ANSWERS + ODD_THINGS)

    def test_each_list_is_new(self):
        for answer, octets in WRITTEN_ANSWERS:
            first = write_answer(answer)
            self.assertIsNot(first, write_answer(answer))
            first.append(9)
            self.assertEqual(write_answer(answer), octets)

    def test_no_octet_list(self):
        self.check_no_octets(read_answer)

    def test_each_first_octet(self):
        for octet in range(256):
            with self.subTest(octet=octet):
                if 128 <= octet <= 148:
                    self.assertEqual(read_answer([octet]), ("done", octet - 128))
                elif 64 <= octet <= 84:
                    self.assertEqual(read_answer([octet]), ("cancelled", octet - 64))
                elif 1 <= octet <= 62:
                    self.assertEqual(read_answer([octet]), ("received", octet))
                else:
                    place = 1 if octet == 63 else 0
                    self.check_places(read_answer, [([octet], place)])

    def test_places(self):
        self.check_places(read_answer, [
            ([], 0), ([0], 0), ([0, 0], 0), ([63], 1), ([63, 128], 2), ([63, 128, 0], 2), ([63, 208], 2),
            ([63, 209, 77], 2), ([63, 208, 78], 2), ([63, 128, 128], 2), ([85], 0), ([127, 0], 0), ([149], 0),
            ([255, 0], 0), ([133, 133], 1), ([133, 0], 1), ([1, 1], 1), ([63, 0, 0], 2), ([63, 208, 77, 0], 3),
            ([84, 85], 1), ([63, 209], 2), ([63, 255, 76, 255], 3),
        ])


if __name__ == "__main__":
    unittest.main()
