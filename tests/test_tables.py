"""The table (point 8), and what a block says (point 9)."""

import copy
import random
import unittest

from fieldtable.errors import BadTable, FieldError, NoField, NoSetting, NoValue
from fieldtable.tables import run_table, says
from tests import drawing
from tests.samples import ODD_THINGS, long_field
from tests.slow_table import size, slow_says, slow_table

ROOMY = ((("host", "x"), ("path", "/")), 120, 2)
ENTRIES = {0: ("a", "x"), 3: ("bb", ""), 40: ("c", "z")}


def new(name, value):
    return ("new", name, value)


def drawn_instructions(chance, setting):
    """Instructions that can be carried out, some of them, and then perhaps one that cannot."""
    instructions = []
    for _ in range(chance.randint(0, 14)):
        more = drawing.instruction(chance)
        if slow_table(setting, instructions + [more])[3] is None:
            instructions.append(more)
    if chance.random() < 0.4:
        instructions.extend(drawing.instruction(chance) for _ in range(3))
    return instructions


class RunTableTest(unittest.TestCase):
    def check_bad(self, setting, instructions, number):
        with self.assertRaises(BadTable) as caught:
            run_table(setting, instructions)
        self.assertIs(type(caught.exception), BadTable)
        self.assertEqual(caught.exception.number, number)

    def test_no_instructions(self):
        self.assertEqual(run_table(ROOMY, []), (0, {}))

    def test_each_kind_of_insertion(self):
        instructions = [new("a", "x"), ("fixed", 1, "/b"), ("entry", 1, "y"), ("again", 0), ("entry", 0, ""), ("again", 4)]
        entries = {0: ("a", "x"), 1: ("path", "/b"), 2: ("a", "y"), 3: ("a", "y"), 4: ("a", ""), 5: ("a", "x")}
        self.assertEqual(run_table(ROOMY, instructions), (6, entries))

    def test_room_0(self):
        setting = ((("a", ""),), 0, 0)
        self.assertEqual(run_table(setting, [("limit", 0)]), (0, {}))
        self.check_bad(setting, [new("a", "")], 0)
        self.check_bad(setting, [("limit", 0), ("fixed", 0, "")], 1)
        self.check_bad(setting, [("limit", 1)], 0)

    def test_room_1(self):
        self.assertEqual(run_table(((), 1, 0), [("limit", 1), ("limit", 0)]), (0, {}))
        self.check_bad(((), 1, 0), [("limit", 1), new("a", "")], 1)
        self.check_bad(((), 1, 0), [("limit", 2)], 0)

    def test_room_120_holds_24_of_the_smallest_entries(self):
        setting = ((), 120, 0)
        count, entries = run_table(setting, [new("a", "")] * 24)
        self.assertEqual((count, sorted(entries)), (24, list(range(24))))
        count, entries = run_table(setting, [new("a", "")] * 25)
        self.assertEqual((count, sorted(entries)), (25, list(range(1, 25))))

    def test_room_120_holds_the_longest_field(self):
        begun = [new(*long_field()), new("b", "v" * 40)]
        self.assertEqual(sorted(run_table(((), 120, 0), begun + [("entry", 0, "w" * 6)])[1]), [0, 1, 2])
        self.assertEqual(sorted(run_table(((), 120, 0), begun + [("entry", 0, "w" * 7)])[1]), [1, 2])
        self.assertEqual(run_table(((), 64, 0), [new(*long_field())]), (1, {0: long_field()}))
        self.check_bad(((), 63, 0), [new(*long_field())], 0)

    def test_a_size_just_the_limit_and_1_greater(self):
        for name, value in [("a", ""), ("a", "x"), ("abc", "xyz"), ("n" * 20, "")]:
            room = len(name) + len(value) + 4
            self.assertEqual(run_table(((), room, 0), [new(name, value)]), (1, {0: (name, value)}))
            self.check_bad(((), room - 1, 0), [new(name, value)], 0)
            lowered = [("limit", room), new(name, value)]
            self.assertEqual(run_table(((), 120, 0), lowered), (1, {0: (name, value)}))
            self.check_bad(((), 120, 0), [("limit", room - 1), new(name, value)], 1)

    def test_an_entry_that_is_too_great_lets_none_leave(self):
        setting = ((), 12, 0)
        self.assertEqual(run_table(setting, [new("a", "x"), new("b", "y")]), (2, {0: ("a", "x"), 1: ("b", "y")}))
        self.check_bad(setting, [new("a", "x"), new("b", "y" * 8)], 1)

    def test_the_size_counts_4_more_than_the_characters(self):
        instructions = [new("a", "x"), new("b", "y"), new("c", "z")]
        self.assertEqual(run_table(((), 18, 0), instructions)[1], {0: ("a", "x"), 1: ("b", "y"), 2: ("c", "z")})
        self.assertEqual(run_table(((), 17, 0), instructions)[1], {1: ("b", "y"), 2: ("c", "z")})

    def test_several_entries_leave_by_an_insertion(self):
        small = [new("a", ""), new("b", ""), new("c", ""), new("d", "")]
        self.assertEqual(run_table(((), 20, 0), small + [new("e", "12345")]), (5, {2: ("c", ""), 3: ("d", ""), 4: ("e", "12345")}))
        self.assertEqual(run_table(((), 20, 0), small + [new("e", "123456")]), (5, {3: ("d", ""), 4: ("e", "123456")}))
        self.assertEqual(run_table(((), 20, 0), small + [new("e", "e" * 15)]), (5, {4: ("e", "e" * 15)}))

    def test_several_entries_leave_by_a_limit(self):
        small = [new("a", ""), new("b", ""), new("c", ""), new("d", "")]
        for limit, kept in [(20, 4), (19, 3), (15, 3), (14, 2), (10, 2), (9, 1), (5, 1), (4, 0), (0, 0)]:
            count, entries = run_table(((), 20, 0), small + [("limit", limit)])
            self.assertEqual((count, sorted(entries)), (4, list(range(4 - kept, 4))))

    def test_the_entry_that_gives_its_name_may_leave_by_it(self):
        setting = ((), 12, 0)
        self.assertEqual(run_table(setting, [new("a", "x"), ("entry", 0, "12345")]), (2, {1: ("a", "12345")}))
        self.assertEqual(run_table(setting, [new("a", "x"), new("b", "y"), ("entry", 1, "z")])[1], {1: ("b", "y"), 2: ("a", "z")})

    def test_the_entry_that_is_repeated_may_leave_by_it(self):
        self.assertEqual(run_table(((), 6, 0), [new("a", "x"), ("again", 0), ("again", 0)]), (3, {2: ("a", "x")}))
        setting = ((), 12, 0)
        self.assertEqual(run_table(setting, [new("a", "x"), new("b", "y"), ("again", 1)])[1], {1: ("b", "y"), 2: ("a", "x")})

    def test_a_limit_down_and_up_again(self):
        instructions = [new("a", "x"), new("b", "y"), ("limit", 6), ("limit", 12)]
        self.assertEqual(run_table(((), 12, 0), instructions), (2, {1: ("b", "y")}))
        self.assertEqual(run_table(((), 12, 0), instructions + [("again", 0)]), (3, {1: ("b", "y"), 2: ("b", "y")}))
        self.check_bad(((), 12, 0), instructions + [("again", 1)], 4)

    def test_a_limit_of_0_the_room_and_above(self):
        begun = [new("a", "x"), ("limit", 0)]
        self.assertEqual(run_table(ROOMY, begun), (1, {}))
        self.check_bad(ROOMY, begun + [("again", 0)], 2)
        self.check_bad(ROOMY, begun + [new("a", "")], 2)
        self.assertEqual(run_table(ROOMY, begun + [("limit", 120), new("b", "")]), (2, {1: ("b", "")}))
        self.check_bad(ROOMY, begun + [("limit", 121)], 2)
        self.check_bad(ROOMY, [("limit", 9999)], 0)

    def test_what_there_is_not(self):
        self.check_bad(ROOMY, [("fixed", 2, "")], 0)
        self.check_bad(ROOMY, [("fixed", 1, ""), ("fixed", 2, "")], 1)
        self.check_bad(((), 120, 0), [("fixed", 0, "")], 0)
        self.check_bad(ROOMY, [("entry", 0, "")], 0)
        self.check_bad(ROOMY, [("again", 0)], 0)
        self.check_bad(ROOMY, [new("a", ""), ("again", 1)], 1)
        self.check_bad(ROOMY, [new("a", ""), ("entry", 1, "")], 1)
        self.check_bad(ROOMY, [new("a", ""), ("again", 9999)], 1)

    def test_the_first_of_several_bad_ones(self):
        self.check_bad(ROOMY, [new("a", ""), ("limit", 121), ("again", 7), ("fixed", 9, "")], 1)
        self.check_bad(ROOMY, [new("a", ""), ("again", 0), ("again", 7), ("limit", 121)], 2)

    def test_9999_insertions_and_one_more(self):
        most = [new("a", "")] + [("again", 0)] * 9998
        count, entries = run_table(ROOMY, most)
        self.assertEqual((count, sorted(entries)), (9999, list(range(9975, 9999))))
        self.check_bad(ROOMY, most + [("again", 0)], 9999)
        self.check_bad(ROOMY, most + [new("a", "")], 9999)
        self.assertEqual(run_table(ROOMY, most + [("limit", 5)]), (9999, {9998: ("a", "")}))

    def test_the_order_of_the_errors(self):
        bad = [("limit", 121)]
        for setting in ODD_THINGS:
            with self.assertRaises(NoSetting):
                run_table(setting, None)
            with self.assertRaises(NoSetting):
                run_table(setting, bad)
        with self.assertRaises(NoValue):
            run_table(ROOMY, bad + [("limit", -1)])

    def test_no_list_of_instructions(self):
        for thing in ODD_THINGS:
            if thing != []:
                with self.subTest(thing=thing), self.assertRaises(NoValue):
                    run_table(ROOMY, thing)
        for thing in [(), (new("a", ""),), new("a", ""), [["new", "a", ""]], [new("a", ""), None], [("limit", True)],
                      [("limit", 10000)], [("again", -1)], [("new", "", "")], [("new", "a", "A")], {new("a", ""): 1}]:
            with self.subTest(thing=thing), self.assertRaises(NoValue):
                run_table(ROOMY, thing)

    def test_a_list_that_is_changed_in_place(self):
        instructions = [new("a", "x")]
        first = run_table(ROOMY, instructions)
        instructions.append(("again", 0))
        instructions[0] = new("b", "y")
        self.assertEqual(first, (1, {0: ("a", "x")}))
        self.assertEqual(run_table(ROOMY, instructions), (2, {0: ("b", "y"), 1: ("b", "y")}))

    def test_the_entries_belong_to_the_caller(self):
        instructions = [new("a", "x")]
        count, entries = run_table(ROOMY, instructions)
        entries[0] = None
        entries[7] = ("b", "y")
        self.assertEqual(run_table(ROOMY, instructions), (1, {0: ("a", "x")}))

    def test_drawn_instructions(self):
        chance = random.Random(81)
        for _ in range(1500):
            setting = drawing.setting(chance)
            instructions = drawn_instructions(chance, setting)
            before = copy.deepcopy(instructions)
            count, entries, limit, bad, _ = slow_table(setting, instructions)
            with self.subTest(setting=setting, instructions=instructions):
                if bad is None:
                    self.assertEqual(run_table(setting, instructions), (count, entries))
                    self.assertLessEqual(sum(size(field) for field in entries.values()), limit)
                else:
                    self.check_bad(setting, instructions, bad)
                self.assertEqual(instructions, before)


class SaysTest(unittest.TestCase):
    def test_each_kind_of_line(self):
        block = (41, 2, (
            ("fixed", 1), ("entry", 0), ("entry", 40), ("fixed", 0, "v"), ("entry", 3, "w"), ("out", "o", "p"), ("entry", 3),
        ))
        fields = (("path", "/"), ("a", "x"), ("c", "z"), ("host", "v"), ("bb", "w"), ("o", "p"), ("bb", ""))
        self.assertEqual(says(ROOMY, ENTRIES, block), fields)

    def test_no_lines(self):
        self.assertEqual(says(ROOMY, ENTRIES, (0, 0, ())), ())
        self.assertEqual(says(ROOMY, {}, (7, 2, ())), ())
        self.assertEqual(says(((), 0, 0), {}, (9999, 9999, ())), ())

    def test_sixteen_lines(self):
        block = (1, 0, (("entry", 0),) * 15 + (("fixed", 0),))
        self.assertEqual(says(ROOMY, ENTRIES, block), (("a", "x"),) * 15 + (("host", "x"),))

    def test_what_there_is_not(self):
        for line in [("fixed", 2), ("fixed", 2, ""), ("fixed", 9999), ("entry", 1), ("entry", 1, ""), ("entry", 39),
                     ("entry", 4, "v"), ("entry", 41)]:
            block = (42, 0, (("entry", 0), line, ("out", "a", "")))
            with self.subTest(line=line):
                self.assertIsNone(says(ROOMY, ENTRIES, block))
        self.assertIsNone(says(((), 9, 0), {}, (0, 0, (("fixed", 0),))))
        self.assertIsNone(says(ROOMY, {}, (1, 0, (("entry", 0),))))

    def test_what_is_required_alone_means_nothing(self):
        self.assertEqual(says(ROOMY, {0: ("a", "x")}, (9999, 0, (("entry", 0),))), (("a", "x"),))

    def test_entries_put_in_in_another_order(self):
        turned = {number: ENTRIES[number] for number in sorted(ENTRIES, reverse=True)}
        block = (41, 0, (("entry", 0), ("entry", 3, ""), ("entry", 40)))
        self.assertEqual(says(ROOMY, turned, block), says(ROOMY, ENTRIES, block))
        self.assertEqual(says(ROOMY, turned, block), (("a", "x"), ("bb", ""), ("c", "z")))

    def test_what_are_no_entries(self):
        block = (0, 0, ())
        for thing in ODD_THINGS:
            if thing != {}:
                with self.subTest(thing=thing), self.assertRaises(NoField):
                    says(ROOMY, thing, block)
        field = ("a", "x")
        for thing in [{41: field}, {-1: field}, {0: ["a", "x"]}, {0: ("a",)}, {0: ("A", "x")}, {0: field, 1: None},
                      {True: field}, {False: field}, {0: field, True: field}, {"0": field}, {(0,): field}, {None: field},
                      {0.0: field}, [field], ((0, field),), {n: field for n in range(25)}, {10 ** 20: field}]:
            with self.subTest(thing=thing), self.assertRaises(NoField):
                says(ROOMY, thing, block)

    def test_the_most_entries_and_the_greatest_number(self):
        entries = {number: ("a", str(number)) for number in range(17, 41)}
        self.assertEqual(len(entries), 24)
        self.assertEqual(says(ROOMY, entries, (41, 41, (("entry", 40), ("entry", 17)))), (("a", "40"), ("a", "17")))
        with self.assertRaises(NoField):
            says(ROOMY, {number - 1: ("a", "") for number in range(17, 42)}, (0, 0, ()))
        with self.assertRaises(NoField):
            says(ROOMY, {number + 1: ("a", "") for number in range(17, 41)}, (0, 0, ()))

    def test_what_is_no_block(self):
        for thing in ODD_THINGS + [(1, 0), [0, 0, ()], (0, 0, []), (0, 1, ()), (1, 0, (("entry", 1),)), (True, 0, ()),
                                   (0, 0, (("out", "a"),)), (0, 0, (("out", "a", ""),) * 17), (10000, 0, ())]:
            with self.subTest(thing=thing), self.assertRaises(NoValue):
                says(ROOMY, ENTRIES, thing)

    def test_the_order_of_the_errors(self):
        with self.assertRaises(NoSetting):
            says(None, None, None)
        with self.assertRaises(NoSetting):
            says(((), 121, 0), {41: ("a", "")}, ())
        with self.assertRaises(NoField):
            says(ROOMY, {41: ("a", "")}, ())
        with self.assertRaises(NoField):
            says(ROOMY, [], (1, 0, (("entry", 0),)))

    def test_drawn_blocks(self):
        chance = random.Random(91)
        for _ in range(2000):
            setting = drawing.setting(chance)
            entries = {chance.randint(0, 9): drawing.field(chance) for _ in range(chance.randint(0, 9))}
            required = chance.randint(0, 12)
            lines = []
            for _ in range(chance.randint(0, 4)):
                kind = chance.choice(["fixed", "entry", "entry", "out"])
                if kind == "out":
                    lines.append((kind,) + drawing.field(chance))
                elif kind == "fixed" or required:
                    number = chance.randint(0, 3 if kind == "fixed" else required - 1)
                    lines.append((kind, number) + chance.choice([(), ("v",)]))
            block = (required, chance.randint(0, required), tuple(lines))
            before = copy.deepcopy(entries)
            with self.subTest(setting=setting, entries=entries, block=block):
                self.assertEqual(says(setting, entries, block), slow_says(setting[0], entries, lines))
                self.assertEqual(list(entries.items()), list(before.items()))


class ErrorsTest(unittest.TestCase):
    def test_the_errors_are_the_named_ones_themselves(self):
        calls = [
            (NoSetting, run_table, (None, [])), (NoValue, run_table, (ROOMY, None)),
            (NoSetting, says, (None, {}, (0, 0, ()))), (NoField, says, (ROOMY, None, (0, 0, ()))),
            (NoValue, says, (ROOMY, {}, None)),
        ]
        for error, function, arguments in calls:
            with self.subTest(function=function.__name__, error=error.__name__):
                with self.assertRaises(FieldError) as caught:
                    function(*arguments)
                self.assertIs(type(caught.exception), error)


if __name__ == "__main__":
    unittest.main()
