"""The shortest block and its lengths (point 9)."""

import copy
import random
import unittest

from fieldtable.blocks import read_block
from fieldtable.errors import FieldError, NoField, NoSetting
from fieldtable.shortest import are_lengths, shortest, shortest_block
from fieldtable.tables import says
from tests import drawing
from tests.samples import ODD_THINGS, long_field
from tests.slow_search import fewest_line_by_line, fewest_of_all_blocks, octets_say, slow_lengths

SETTING = ((("host", "x"), ("path", "/")), 120, 2)
BARE = ((), 120, 0)
ENTRIES = {0: ("a", "x"), 3: ("bb", ""), 40: ("c", "z")}
MANY = {number: ("a", "v" * (number - 17)) for number in range(17, 41)}


def drawn(chance, most):
    setting = drawing.setting(chance)
    entries = {chance.randint(0, most): drawing.field(chance) for _ in range(chance.randint(0, 6))}
    return setting, entries, drawing.fields(chance, 3)


class ShortestTest(unittest.TestCase):
    def check(self, setting, entries, fields, fewest=fewest_line_by_line):
        before = copy.deepcopy(entries)
        answer = shortest(setting, entries, fields)
        self.assertIs(type(answer), tuple)
        length, octets, lengths = answer
        expected = slow_lengths(setting[0], entries, fields, fewest)
        self.assertEqual(lengths, expected)
        self.assertEqual(length, min(expected.values()))
        self.assertEqual(len(octets), length)
        self.assertTrue(octets_say(setting[0], entries, fields, octets))
        self.assertEqual(says(setting, entries, read_block(octets)), fields)
        self.assertTrue(all(type(part) is int for key, number in lengths.items() for part in key + (number,)))
        self.assertEqual(list(entries.items()), list(before.items()))
        self.assertIs(are_lengths(setting, entries, fields, expected), True)
        return length

    def test_no_entries(self):
        self.assertEqual(shortest(BARE, {}, ()), (2, [0, 0], {(0, 0): 2}))
        self.assertEqual(shortest(BARE, {}, (("a", "x"),)), (6, [0, 0, 33, 97, 1, 120], {(0, 0): 6}))
        self.assertEqual(self.check(SETTING, {}, (("host", "x"), ("host", "y"), ("hos", "x"))), 2 + 1 + 3 + 6)

    def test_no_fields(self):
        length, octets, lengths = shortest(SETTING, ENTRIES, ())
        self.assertEqual(length, 2)
        self.assertEqual(set(lengths), {(r, b) for r in (0, 1, 4, 41) for b in range(r + 1)})
        self.assertEqual(set(lengths.values()), {2})
        self.assertIsInstance(octets, list)

    def test_the_keys_are_just_those_that_are_named(self):
        _, _, lengths = shortest(BARE, {2: ("a", "x"), 5: ("b", "y")}, (("a", "x"),))
        keys = [(0, 0)] + [(3, b) for b in range(4)] + [(6, b) for b in range(7)]
        self.assertEqual(sorted(lengths), keys)

    def test_by_the_table_by_a_name_and_by_neither(self):
        self.assertEqual(self.check(BARE, ENTRIES, (("a", "x"),)), 3)
        self.assertEqual(self.check(BARE, ENTRIES, (("c", "z"), ("c", "z"))), 4)
        self.assertEqual(self.check(BARE, ENTRIES, (("bb", "yyy"),)), 2 + 1 + 4)
        self.assertEqual(self.check(BARE, ENTRIES, (("d", "z"),)), 2 + 2 + 2)
        self.assertEqual(self.check(SETTING, ENTRIES, (("path", "/"), ("path", ""), ("a", "x"))), 2 + 1 + 2 + 1)
        self.assertEqual(self.check(SETTING, ENTRIES, (("a", "x"), ("c", "z"))), 2 + 1 + 2)

    def test_up_to_eight_fields(self):
        fields = (("a", "x"), ("bb", ""), ("c", "z"), ("a", "z"), ("bb", "q"), ("host", "x"), ("path", "q"), ("o", "p"))
        for most in range(9):
            self.check(SETTING, ENTRIES, fields[:most])
            self.check(SETTING, ENTRIES, fields[8 - most:])

    def test_sixteen_fields(self):
        self.assertEqual(self.check(SETTING, ENTRIES, (("a", "x"),) * 16), 18)
        self.check(SETTING, MANY, tuple(("a", "v" * number) for number in range(10, 26)))

    def test_24_entries(self):
        self.check(SETTING, MANY, (("a", ""), ("a", "v" * 11), ("a", "v" * 23), ("a", "w"), ("host", "w")))
        self.check(BARE, {number: ("a", "") for number in range(24)}, (("a", ""), ("a", "q")))
        self.check(BARE, {number * 40 // 23: ("a", str(number)) for number in range(24)}, (("a", "3"), ("a", "20")))

    def test_gaps_in_the_numbers(self):
        entries = {0: ("a", "x"), 9: ("b", "y"), 20: ("c", "z"), 33: ("d", "w")}
        fields = tuple(entries.values())
        self.assertEqual(self.check(BARE, entries, fields[:2] + fields[3:]), 2 + 1 + 1 + 2)
        self.check(BARE, entries, fields)
        self.check(BARE, entries, tuple((name, "q") for name, _ in fields))

    def test_the_ends_of_the_short_references(self):
        field = ("a", "x")
        for number in range(12):
            entries = {number: field, 11: ("b", "y")}
            self.check(BARE, entries, (field,))
            self.check(BARE, entries, (field, ("b", "y")))
            self.check(BARE, entries, (("a", "q"), ("b", "q")))

    def test_the_longest_field(self):
        self.assertEqual(self.check(BARE, {}, (long_field(),) * 2), 2 + 2 * (2 + 20 + 1 + 40))
        self.assertEqual(self.check(BARE, {4: long_field()}, (long_field(),) * 16), 18)

    def test_entries_put_in_in_another_order(self):
        turned = {number: ENTRIES[number] for number in sorted(ENTRIES, reverse=True)}
        fields = (("a", "x"), ("c", "q"), ("bb", ""))
        self.assertEqual(shortest(SETTING, turned, fields)[2], shortest(SETTING, ENTRIES, fields)[2])
        self.check(SETTING, turned, fields)

    def test_all_blocks_of_small_tables(self):
        chance = random.Random(92)
        for _ in range(60):
            setting, entries, fields = drawn(chance, 5)
            with self.subTest(setting=setting, entries=entries, fields=fields):
                self.check(setting, entries, fields, fewest_of_all_blocks)

    def test_drawn_tables(self):
        chance = random.Random(93)
        for _ in range(60):
            setting, entries, fields = drawn(chance, 14)
            with self.subTest(setting=setting, entries=entries, fields=fields):
                self.check(setting, entries, fields)

    def test_no_required_does_better_than_those_of_the_lengths(self):
        chance = random.Random(94)
        for _ in range(40):
            setting, entries, fields = drawn(chance, 7)
            length = shortest(setting, entries, fields)[0]
            for required in range(10):
                for base in range(required + 1):
                    self.assertGreaterEqual(fewest_line_by_line(setting[0], entries, fields, required, base), length)

    def test_what_is_returned_belongs_to_the_caller(self):
        arguments = (SETTING, dict(ENTRIES), (("a", "x"), ("o", "p")))
        first = shortest(*arguments)
        kept = copy.deepcopy(first)
        first[1].append(7)
        first[2].clear()
        self.assertEqual(shortest(*arguments), kept)

    def test_no_error_for_another_room_or_waiting(self):
        for room, waiting in [(0, 0), (1, 4), (120, 2)]:
            self.assertEqual(shortest(((), room, waiting), ENTRIES, (("a", "x"),))[0], 3)


class ErrorsTest(unittest.TestCase):
    def check(self, error, setting, entries, fields):
        for function, more in [(shortest, ()), (are_lengths, ({(0, 0): 2},)), (are_lengths, (None,))]:
            with self.subTest(entries=entries, fields=fields), self.assertRaises(FieldError) as caught:
                function(setting, entries, fields, *more)
            self.assertIs(type(caught.exception), error)

    def test_no_setting(self):
        for thing in ODD_THINGS + [((), 121, 0), ((), 0, 5), ((), True, 0), [(), 0, 0], ((("A", ""),), 0, 0)]:
            self.check(NoSetting, thing, {}, ())
            self.check(NoSetting, thing, None, None)

    def test_no_entries(self):
        field = ("a", "x")
        for thing in ODD_THINGS + [{41: field}, {-1: field}, {True: field}, {0: "ax"}, {n: field for n in range(25)}]:
            if thing != {}:
                self.check(NoField, SETTING, thing, ())
                self.check(NoField, SETTING, thing, None)

    def test_no_list_of_fields(self):
        for thing in ODD_THINGS + [("a", "x"), [("a", "x")], (["a", "x"],), (("a", "X"),), (("a", "x"),) * 17, (("", ""),)]:
            if thing != ():
                self.check(NoField, SETTING, {}, thing)


class AreLengthsTest(unittest.TestCase):
    FIELDS = (("a", "x"), ("bb", "q"))
    SMALL = {0: ("a", "x"), 2: ("bb", "")}

    def are(self, thing):
        before = repr(thing)
        answer = are_lengths(SETTING, self.SMALL, self.FIELDS, thing)
        self.assertEqual(repr(thing), before)
        self.assertIsInstance(answer, bool)
        return answer

    def setUp(self):
        self.lengths = shortest(SETTING, self.SMALL, self.FIELDS)[2]

    def test_the_lengths_themselves(self):
        self.assertIs(self.are(self.lengths), True)
        turned = {key: self.lengths[key] for key in sorted(self.lengths, reverse=True)}
        self.assertIs(self.are(turned), True)

    def test_a_number_one_too_great_or_too_small(self):
        for key in self.lengths:
            for more in (1, -1, 256, -self.lengths[key], 10 ** 20):
                self.assertIs(self.are({**self.lengths, key: self.lengths[key] + more}), False)

    def test_a_key_more_or_fewer(self):
        for key in self.lengths:
            self.assertIs(self.are({other: self.lengths[other] for other in self.lengths if other != key}), False)
        for key in [(2, 0), (4, 4), (3, 4), (0, 1), (0,), (0, 0, 0), 0, "a", None, ((0, 0),), (3, -1), ("0", 0)]:
            self.assertIs(self.are({**self.lengths, key: 5}), False)

    def test_another_key_in_the_place_of_one(self):
        for key in self.lengths:
            for other in [(2, 0), (4, 4), (3, 4), (0,), 0, "a", None, (0, 0, 0), (3, "0"), (3, None), (3, (0, 0))]:
                changed = {(other if one == key else one): self.lengths[one] for one in self.lengths}
                self.assertIs(self.are(changed), False)

    def test_booleans_and_other_kinds_in_keys(self):
        for key, other in [((1, 1), (1, True)), ((1, 1), (True, True)), ((1, 0), (True, 0)), ((1, 0), (1, False)),
                           ((0, 0), (0, False)), ((0, 0), (False, 0)), ((3, 1), (3, True)), ((3, 2), (3.0, 2)), ((3, 0), (3, 0.0))]:
            changed = {(other if one == key else one): self.lengths[one] for one in self.lengths}
            self.assertEqual(changed, self.lengths)
            self.assertIs(self.are(changed), False)

    def test_booleans_and_other_kinds_in_numbers(self):
        for key in self.lengths:
            number = self.lengths[key]
            for other in [True, False, None, str(number), float(number), [number], (number,), {}, {number}, b"7"]:
                self.assertIs(self.are({**self.lengths, key: other}), False)

    def test_another_kind_of_value(self):
        things = [list(self.lengths.items()), tuple(self.lengths.items()), list(self.lengths), set(self.lengths)]
        for thing in ODD_THINGS + things:
            self.assertIs(self.are(thing), False)

    def test_the_lengths_of_other_arguments(self):
        self.assertIs(are_lengths(SETTING, self.SMALL, self.FIELDS[:1], self.lengths), False)
        self.assertIs(are_lengths(SETTING, {0: ("a", "x"), 2: ("cc", "")}, self.FIELDS, self.lengths), False)
        self.assertIs(are_lengths(SETTING, {0: ("a", "x"), 3: ("bb", "")}, self.FIELDS, self.lengths), False)
        self.assertIs(are_lengths(BARE, self.SMALL, self.FIELDS, self.lengths), True)
        self.assertIs(are_lengths(((("bb", "q"),), 9, 0), self.SMALL, self.FIELDS, self.lengths), False)

    def test_drawn_lengths_that_are_changed(self):
        chance = random.Random(95)
        for _ in range(100):
            setting, entries, fields = drawn(chance, 9)
            lengths = shortest(setting, entries, fields)[2]
            self.assertIs(are_lengths(setting, entries, fields, lengths), True)
            key = chance.choice(list(lengths))
            lengths[key] += chance.choice([-1, 1])
            self.assertIs(are_lengths(setting, entries, fields, lengths), False)


class ShortestBlockTest(unittest.TestCase):
    """What the sender uses: numbers of entries may be any, and the least required counts."""

    def test_the_least_required_among_the_shortest(self):
        chance = random.Random(96)
        for _ in range(80):
            setting, entries, fields = drawn(chance, 8)
            lengths = slow_lengths(setting[0], entries, fields, fewest_line_by_line)
            required, base, lines = shortest_block(setting[0], entries, fields)
            least = min(lengths.values())
            self.assertEqual(lengths[required, base], least)
            self.assertEqual(required, min(pair[0] for pair in lengths if lengths[pair] == least))
            self.assertEqual(says(setting, entries, (required, base, lines)), fields)

    def test_great_numbers(self):
        for last in (253, 254, 255, 256, 381, 382, 383, 9998):
            entries = {last - more: ("a", str(more)) for more in range(12)}
            for fields in [(("a", "0"),), (("a", "11"),), (("a", "0"), ("a", "11")), (("a", "0"), ("a", "9")),
                           (("a", "1"), ("a", "10")), (("a", "q"),), (("b", "q"),)]:
                pairs = [(0, 0)]
                for required in range(last - 12, last + 2):
                    pairs += [(required, base) for base in range(required - 16, required + 1)]
                found = {pair: fewest_line_by_line((), entries, fields, *pair) for pair in pairs}
                required, base, lines = shortest_block((), entries, fields)
                with self.subTest(last=last, fields=fields):
                    self.assertEqual(found[required, base], min(found.values()))
                    self.assertEqual(required, min(pair[0] for pair in pairs if found[pair] == found[required, base]))


if __name__ == "__main__":
    unittest.main()
