"""Blocks and their lines (points 6 and 7)."""

import copy
import unittest

from fieldtable.blocks import is_block, read_block, write_block
from fieldtable.errors import NoOctetList, NoOctets, NoValue
from tests.samples import ALLOWED, NO_OCTETS, ODD_THINGS, bounds

EXAMPLE = ((2, 1, (("entry", 0), ("entry", 1), ("out", "a", ""))), [2, 1, 128, 16, 33, 97, 0])

WRITTEN_BLOCKS = [
    EXAMPLE,
    ((0, 0, ()), [0, 0]), ((1, 1, ()), [1, 0]), ((1, 0, ()), [1, 1]), ((254, 254, ()), [254, 0]),
    ((255, 255, ()), [255, 0, 0]), ((255, 0, ()), [255, 0, 255, 0]), ((382, 0, ()), [255, 127, 255, 127]),
    ((383, 0, ()), [255, 128, 1, 255, 128, 1]), ((9999, 9999, ()), [255, 144, 76, 0]),
    ((9999, 0, ()), [255, 144, 76, 255, 144, 76]), ((300, 46, ()), [255, 45, 254]), ((300, 45, ()), [255, 45, 255, 0]),
    ((0, 0, (("fixed", 0),)), [0, 0, 192]), ((0, 0, (("fixed", 62),)), [0, 0, 254]),
    ((0, 0, (("fixed", 63),)), [0, 0, 255, 0]), ((3, 1, (("fixed", 190),)), [3, 2, 255, 127]),
    ((3, 1, (("fixed", 191),)), [3, 2, 255, 128, 1]), ((0, 0, (("fixed", 9999),)), [0, 0, 255, 208, 77]),
    ((1, 1, (("entry", 0),)), [1, 0, 128]), ((1, 0, (("entry", 0),)), [1, 1, 16]),
    ((7, 7, (("entry", 0),)), [7, 0, 134]), ((8, 8, (("entry", 0),)), [8, 0, 135, 0]),
    ((9, 9, (("entry", 0),)), [9, 0, 135, 1]), ((9, 9, (("entry", 8),)), [9, 0, 128]),
    ((135, 135, (("entry", 0),)), [135, 0, 135, 127]), ((136, 136, (("entry", 0),)), [136, 0, 135, 128, 1]),
    ((9999, 9999, (("entry", 0),)), [255, 144, 76, 0, 135, 135, 78]),
    ((5, 2, (("entry", 1), ("entry", 2), ("entry", 4))), [5, 3, 128, 16, 18]),
    ((6, 2, (("entry", 5),)), [6, 4, 19, 0]), ((200, 2, (("entry", 132),)), [200, 198, 19, 127]),
    ((200, 2, (("entry", 133),)), [200, 198, 19, 128, 1]),
    ((9999, 0, (("entry", 9998),)), [255, 144, 76, 255, 144, 76, 19, 139, 78]),
    ((0, 0, (("fixed", 0, ""),)), [0, 0, 96, 0]), ((0, 0, (("fixed", 14, "x"),)), [0, 0, 110, 1, 120]),
    ((0, 0, (("fixed", 15, "x"),)), [0, 0, 111, 0, 1, 120]), ((0, 0, (("fixed", 142, ""),)), [0, 0, 111, 127, 0]),
    ((0, 0, (("fixed", 143, ""),)), [0, 0, 111, 128, 1, 0]), ((0, 0, (("fixed", 9999, ""),)), [0, 0, 111, 128, 78, 0]),
    ((1, 1, (("entry", 0, "v"),)), [1, 0, 64, 1, 118]), ((7, 7, (("entry", 0, ""),)), [7, 0, 70, 0]),
    ((8, 8, (("entry", 0, ""),)), [8, 0, 71, 0, 0]), ((135, 135, (("entry", 0, ""),)), [135, 0, 71, 127, 0]),
    ((136, 136, (("entry", 0, "v" * 40),)), [136, 0, 71, 128, 1, 40] + [118] * 40),
    ((1, 0, (("entry", 0, ""),)), [1, 1, 0, 0]), ((3, 0, (("entry", 2, "v"),)), [3, 3, 2, 1, 118]),
    ((4, 0, (("entry", 3, "v"),)), [4, 4, 3, 0, 1, 118]), ((131, 0, (("entry", 130, ""),)), [131, 131, 3, 127, 0]),
    ((132, 0, (("entry", 131, ""),)), [132, 132, 3, 128, 1, 0]),
    ((0, 0, (("out", "a", ""),)), [0, 0, 33, 97, 0]), ((0, 0, (("out", "n" * 14, "v"),)), [0, 0, 46] + [110] * 14 + [1, 118]),
    ((0, 0, (("out", "n" * 15, ""),)), [0, 0, 47, 0] + [110] * 15 + [0]),
    ((0, 0, (("out", "n" * 20, "v" * 40),)), [0, 0, 47, 5] + [110] * 20 + [40] + [118] * 40),
    ((4, 2, (("entry", 2, "a"), ("entry", 1, "b"), ("fixed", 1, "c"), ("fixed", 2), ("entry", 3), ("entry", 0))),
     [4, 2, 0, 1, 97, 64, 1, 98, 97, 1, 99, 194, 17, 129]),
    ((0, 0, (("fixed", 1),) * 15), [0, 0] + [193] * 15), ((0, 0, (("fixed", 1),) * 16), [0, 0] + [193] * 16),
    ((1, 1, (("out", "a", "b"),) * 16), [1, 0] + [33, 97, 1, 98] * 16),
]

NO_LINES = [
    # other words
    ("Fixed", 1), ("new", 1), ("again", 1), ("", 1), ("out", 1), ("new", "a", "x"), ("", "a", "x"), (None, 1), (1, 1),
    (["fixed"], 1), (b"fixed", 1), ("entry ", 1), ("in", "a", "x"), ({}, 1, ""),
    # parts left out or put in
    (), ("fixed",), ("entry",), ("out",), ("out", "a"), ("fixed", 1, "x", "x"), ("entry", 1, "x", 1),
    ("out", "a", "x", "x"), ("out", "a", "x", ""), (("fixed", 1),), ("fixed", 1, None), ("entry", 1, None), (1, "entry"),
    # parts of another kind
    ("fixed", "1"), ("fixed", True), ("fixed", False), ("fixed", None), ("fixed", 1.0), ("fixed", [1]), ("fixed", "a", "x"),
    ("fixed", 1, 1), ("fixed", 1, True), ("fixed", 1, b"x"), ("fixed", 1, ["x"]), ("fixed", True, "x"), ("entry", "1"),
    ("entry", True), ("entry", False), ("entry", None), ("entry", 1.0), ("entry", (1,)), ("entry", "a", "x"),
    ("entry", 1, 1), ("entry", 1, b"x"), ("entry", True, "x"), ("entry", False, "x"), ("out", 1, "x"), ("out", None, "x"),
    ("out", b"a", "x"), ("out", "a", 1), ("out", "a", b"x"), ("out", "a", None), ("out", ["a"], "x"), ("out", True, "x"),
    # parts out of range, in a block with required 5
    ("fixed", -1), ("fixed", 10000), ("fixed", -1, "x"), ("fixed", 10000, "x"), ("fixed", 1, "v" * 41), ("fixed", 1, "X"),
    ("fixed", 10 ** 20), ("entry", -1), ("entry", 5), ("entry", 6), ("entry", 9999), ("entry", 10000), ("entry", -1, "x"),
    ("entry", 5, "x"), ("entry", 6, ""), ("entry", 1, "v" * 41), ("entry", 1, "X"), ("entry", 4, "\n"), ("out", "", "x"),
    ("out", "n" * 21, "x"), ("out", "a", "v" * 41), ("out", "A", "x"), ("out", "a", "X"), ("out", "a_", ""),
    # other kinds
    ["fixed", 1], ["entry", 1, "x"], ["out", "a", "x"], None, 1, "fixed", {"fixed": 1}, True, ("a", "b"),
]

NO_BLOCKS = [
    (), (0,), (0, 0), (0, 0, (), ()), (0, (), 0), ((), 0, 0), [0, 0, ()], (0, 0, []), (0, 0, [("fixed", 1)]), (0, 0, {}),
    (0, 0, ""), (0, 0, None), (0, 0, 0), (0, 0, ("fixed", 1)), (0, 0, ("fixed", 1, "x")), (0, 0, ("fixed",)),
    (-1, -1, ()), (-1, 0, ()), (0, -1, ()), (5, -1, ()), (5, 6, ()), (0, 1, ()), (10000, 0, ()), (10000, 10000, ()),
    (9999, 10000, ()), (10 ** 20, 1, ()), (5, 10 ** 20, ()), (5, -10 ** 20, ()),
    (True, 0, ()), (False, 0, ()), (True, True, ()), (1, True, ()), (1, False, ()), (0, False, ()), (1.0, 1, ()),
    (1, 1.0, ()), ("1", 0, ()), (1, "0", ()), (None, 0, ()), (1, None, ()), ([1], 0, ()), (1, [0], ()), (1, (0,), ()),
    (0, 0, (("fixed", 1),) * 17), (0, 0, (("fixed", 1),) * 2000), (0, 0, (("entry", 0),)), (0, 0, (("entry", 0, "x"),)),
    (1, 0, (("entry", 1),)), (1, 1, (("entry", 1),)), (2, 0, (("entry", 1), ("entry", 2))),
    {"required": 0}, "abc", {0, 1, 2}, [(0, 0, ())], (0, 0, {("fixed", 1)}), (0, 0, {("fixed", 1): 1}),
]


class Case(unittest.TestCase):
    def check_places(self, places):
        for octets, place in places:
            with self.subTest(octets=octets):
                before = list(octets)
                with self.assertRaises(NoOctets) as caught:
                    read_block(octets)
                self.assertEqual(caught.exception.place, place)
                self.assertEqual(octets, before)

    def check_again(self, block):
        with self.subTest(block=block):
            self.assertIs(is_block(block), True)
            again = read_block(write_block(block))
            self.assertEqual(again, block)
            self.assertEqual([type(part) for part in again], [int, int, tuple])
            for line, first in zip(again[2], block[2]):
                self.assertIs(type(line), tuple)
                self.assertEqual([type(part) for part in line], [type(part) for part in first])


class BlockTest(Case):
    def test_written_out(self):
        for block, octets in WRITTEN_BLOCKS:
            with self.subTest(block=block):
                before = list(octets)
                self.assertIs(is_block(block), True)
                self.assertEqual(write_block(block), octets)
                self.assertEqual(read_block(octets), block)
                self.assertEqual(octets, before)

    def test_requireds_and_bases(self):
        for required in bounds(8):
            for base in bounds(8):
                if base <= required:
                    self.check_again((required, base, ()))
                    self.check_again((required, required - base, (("fixed", 3),)))

    def test_each_entry_around_the_base(self):
        for required in range(1, 24):
            for base in range(required + 1):
                for number in range(required):
                    self.check_again((required, base, (("entry", number),)))
                    self.check_again((required, base, (("entry", number, "v"), ("entry", number))))

    def test_entries_around_each_bound(self):
        for number in bounds(3) + bounds(2):
            if number < 9999:
                for line in (("entry", 0), ("entry", 0, "x")):
                    self.check_again((number + 1, number + 1, (line,)))
                for line in (("entry", number), ("entry", number, "x")):
                    self.check_again((number + 1, 0, (line,)))

    def test_fixed_fields_around_each_bound(self):
        for number in bounds(6) + bounds(4):
            self.check_again((0, 0, (("fixed", number), ("fixed", number, "x"))))

    def test_names_and_values_of_each_length(self):
        for length in range(41):
            lines = [("fixed", 1, "v" * length), ("entry", 0, "v" * length), ("out", "a", "v" * length)]
            if 1 <= length <= 20:
                lines.append(("out", "n" * length, ""))
            self.check_again((1, 1, tuple(lines)))

    def test_numbers_of_lines(self):
        for number in range(17):
            lines = (("entry", 0), ("out", "a", "b"), ("fixed", 1, "")) * 6
            self.check_again((1, 0, lines[:number]))
        self.assertRaises(NoValue, write_block, (0, 0, (("fixed", 1),) * 17))

    def test_no_blocks(self):
        for thing in NO_BLOCKS + ODD_THINGS:
            with self.subTest(thing=thing):
                before = copy.deepcopy(thing) if isinstance(thing, (list, tuple, dict, set)) else thing
                self.assertIs(is_block(thing), False)
                self.assertRaises(NoValue, write_block, thing)
                self.assertEqual(thing, before)

    def test_no_lines(self):
        for line in NO_LINES:
            for lines in [(line,), (("fixed", 1), line), (line, ("fixed", 1))]:
                with self.subTest(lines=lines):
                    self.assertIs(is_block((5, 3, lines)), False)
                    self.assertRaises(NoValue, write_block, (5, 3, lines))

    def test_entries_are_below_required(self):
        for required in (0, 1, 2, 5, 255, 9999):
            for base in {0, required // 2, required}:
                for number in (0, 1, 4, 5, 254, 255, 9998, 9999, required - 1, required, required + 1):
                    for line in (("entry", number), ("entry", number, "")):
                        with self.subTest(required=required, base=base, line=line):
                            self.assertIs(is_block((required, base, (line,))), 0 <= number < required)

    def test_each_list_is_new(self):
        for block, octets in WRITTEN_BLOCKS:
            first = write_block(block)
            self.assertIsNot(first, write_block(block))
            first.append(9)
            self.assertEqual(write_block(block), octets)


class ReadTest(Case):
    def test_later_changes_of_the_octets_mean_nothing(self):
        octets = list(EXAMPLE[1])
        block = read_block(octets)
        octets.clear()
        self.assertEqual(block, EXAMPLE[0])

    def test_no_octet_list(self):
        for thing in NO_OCTETS:
            with self.subTest(thing=thing):
                before = copy.deepcopy(thing)
                self.assertRaises(NoOctetList, read_block, thing)
                self.assertEqual(thing, before)

    def test_cut_short(self):
        for block, octets in WRITTEN_BLOCKS:
            whole = [len(write_block(block[:2] + (block[2][:count],))) for count in range(len(block[2]) + 1)]
            for length in range(len(octets)):
                if length in whole:
                    lines = block[2][:whole.index(length)]
                    self.assertEqual(read_block(octets[:length]), block[:2] + (lines,))
                else:
                    self.check_places([(octets[:length], length)])

    def test_heads(self):
        self.check_places([
            ([], 0), ([0], 1), ([5], 1), ([255], 1), ([255, 0], 2), ([255, 128], 2), ([0, 1], 1), ([0, 255], 1),
            ([5, 6], 1), ([5, 255, 0], 1), ([254, 255], 1), ([255, 0, 255, 1], 3), ([255, 0, 255], 3),
            ([255, 45, 255, 46], 3), ([255, 45, 255, 128], 3), ([255, 128, 0], 2), ([255, 145, 76], 2),
            ([255, 144, 77], 2), ([255, 128, 128], 2), ([255, 128, 1, 255, 129], 4), ([255, 128, 1, 255, 128], 5),
            ([255, 128, 1, 255, 128, 2], 5), ([255, 128, 1, 255, 128, 0], 5), ([255, 128, 2, 255, 129, 2], 5),
            ([255, 129, 1, 255, 130], 4), ([255, 144, 76, 255, 145, 76], 5), ([255, 145], 2),
        ])

    def test_octets_that_begin_no_line(self):
        for octet in list(range(4, 16)) + list(range(20, 32)) + list(range(48, 64)):
            self.check_places([([200, 100, octet], 2), ([200, 100, octet, 0, 0], 2), ([0, 0, octet], 2)])
        for octet in list(range(72, 96)) + list(range(112, 128)) + list(range(136, 192)):
            self.check_places([([200, 100, octet], 2), ([200, 100, octet, 0, 0], 2), ([200, 100, 193, octet], 3)])

    def test_each_octet_that_begins_a_line(self):
        for octet in range(256):
            begins = octet < 4 or 16 <= octet < 20 or 33 <= octet < 48 or 64 <= octet < 72 or 96 <= octet < 112
            begins = begins or 128 <= octet < 136 or octet >= 192
            whole = 16 <= octet < 19 or 128 <= octet < 135 or 192 <= octet < 255
            with self.subTest(octet=octet):
                if whole:
                    self.assertEqual(len(read_block([200, 100, octet])[2]), 1)
                else:
                    self.check_places([([200, 100, octet], 3 if begins else 2)])

    def test_references_below_the_base(self):
        for mark, more in ((128, []), (64, [0])):
            self.check_places([
                ([0, 0, mark] + more, 2), ([5, 5, mark] + more, 2), ([1, 0, mark + 1] + more, 2),
                ([6, 0, mark + 6] + more, 2), ([7, 0, mark + 7, 0] + more, 2), ([8, 0, mark + 7, 1] + more, 3),
                ([10, 0, mark + 7, 3] + more, 3), ([10, 0, mark + 7, 128, 1] + more, 3), ([10, 0, mark + 7], 3),
                ([135, 0, mark + 7, 128] + more, 3), ([136, 0, mark + 7, 129] + more, 3), ([136, 0, mark + 7, 128], 4),
                ([136, 0, mark + 7, 128, 2] + more, 4), ([137, 0, mark + 7, 128, 0] + more, 4), ([8, 1, mark + 7], 2),
                ([255, 144, 76, 0, mark + 7, 136, 78] + more, 6), ([255, 144, 76, 0, mark + 7, 135, 79] + more, 6),
            ])
            self.assertEqual(read_block([10, 0, mark + 7, 2] + more)[2][0][:2], ("entry", 0))
            self.assertEqual(read_block([10, 9, mark] + more)[2][0][:2], ("entry", 0))

    def test_references_from_the_base_on(self):
        for mark, more in ((16, []), (0, [0])):
            self.check_places([
                ([0, 0, mark] + more, 2), ([5, 0, mark] + more, 2), ([1, 1, mark + 1] + more, 2), ([2, 2, mark + 2], 2),
                ([3, 3, mark + 3, 0] + more, 2), ([4, 4, mark + 3, 1] + more, 3), ([6, 5, mark + 3, 2] + more, 3),
                ([4, 4, mark + 3, 128] + more, 3), ([131, 131, mark + 3, 128], 3), ([132, 132, mark + 3, 128], 4),
                ([132, 132, mark + 3, 129], 3), ([132, 132, mark + 3, 128, 2] + more, 4),
                ([133, 133, mark + 3, 128, 0] + more, 4),
            ])
            self.assertEqual(read_block([6, 5, mark + 3, 1] + more)[2][0][:2], ("entry", 5))
            self.assertEqual(read_block([6, 1, mark] + more)[2][0][:2], ("entry", 5))

    def test_references_to_fixed_fields(self):
        self.check_places([
            ([0, 0, 255, 209, 77], 4), ([0, 0, 255, 208, 78], 4), ([0, 0, 255, 128, 0], 4), ([0, 0, 255, 128, 128], 4),
            ([0, 0, 111, 129, 78, 0], 4), ([0, 0, 111, 128, 79, 0], 4), ([0, 0, 111, 128, 0, 0], 4), ([0, 0, 255], 3),
            ([0, 0, 111], 3), ([0, 0, 111, 0], 4), ([0, 0, 96], 3),
        ])

    def test_names_and_values(self):
        self.check_places([
            ([0, 0, 32], 2), ([0, 0, 32, 0], 2), ([0, 0, 47, 6] + [97] * 30, 3), ([0, 0, 47, 127], 3), ([0, 0, 47, 128], 3),
            ([0, 0, 47], 3), ([0, 0, 47, 5] + [97] * 19, 23), ([0, 0, 33, 65], 3), ([0, 0, 33, 97, 41], 4),
            ([0, 0, 33, 97, 1, 33], 5), ([0, 0, 33, 97, 128], 4), ([0, 0, 33, 97], 4), ([0, 0, 96, 41], 3),
            ([0, 0, 96, 128], 3), ([0, 0, 96, 2, 97], 5), ([1, 0, 64, 41], 3), ([1, 1, 0, 41], 3), ([1, 1, 0, 127], 3),
        ])

    def test_each_character(self):
        for octet in range(256):
            with self.subTest(octet=octet):
                if chr(octet) in ALLOWED:
                    self.assertEqual(read_block([0, 0, 33, octet, 0])[2], (("out", chr(octet), ""),))
                    self.assertEqual(read_block([0, 0, 96, 1, octet])[2], (("fixed", 0, chr(octet)),))
                else:
                    self.check_places([([0, 0, 33, octet, 0], 3), ([0, 0, 96, 1, octet], 4)])

    def test_a_seventeenth_line(self):
        for octet in range(256):
            self.check_places([([1, 1] + [193] * 16 + [octet], 18)])
        self.check_places([([1, 0] + [33, 97, 1, 98] * 16 + [33, 97, 1, 98], 66), ([0, 0] + [193] * 1990, 18)])
        self.assertEqual(len(read_block([0, 0] + [193] * 16)[2]), 16)

    def test_of_two_faults_the_first(self):
        self.check_places([([0, 1, 4], 1), ([0, 0, 4, 4], 2), ([0, 0, 193, 33, 65, 41], 4), ([0, 0, 4] + [193] * 20, 2)])


if __name__ == "__main__":
    unittest.main()
