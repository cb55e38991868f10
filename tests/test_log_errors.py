"""Errors of what takes a setting and a log, and what becomes of the arguments and answers (points 1 and 2)."""

import copy
import unittest

from fieldtable.errors import BadOrder, FieldError, NoAnswer, NoLog, NoSetting, TooManyStates
from fieldtable.judging import judge, ledger, repair, widest
from fieldtable.orders import fails, run_order
from fieldtable.states import all_states, are_states
from tests.logs import block, done, received, table
from tests.samples import NO_OCTETS, ODD_THINGS

SETTING = ((("h", "x"),), 12, 1)
INSERT = table("new", "a", "x")
# Each function with what it takes behind the setting and the log.
JUDGING = [(judge, []), (ledger, []), (repair, []), (widest, []), (all_states, []), (are_states, [[]])]
ALL = JUDGING + [(run_order, [[]]), (fails, [[]])]
NO_SETTINGS = ODD_THINGS + [
    ((), 0), ((), 0, 0, 0), [(), 0, 0], ([], 0, 0), ((), -1, 0), ((), 121, 0), ((), 0, -1), ((), 0, 5), ((), True, 0),
    ((), 0, False), ((), 0.0, 0), ((("", ""),), 0, 0), ((("a", "b"),) * 13, 0, 0), (None, 0, 0), ((), "0", 0), ((), 0, None),
]
NO_LOGS = [thing for thing in ODD_THINGS if not (isinstance(thing, list) and not thing)] + [
    [INSERT] * 41, (INSERT,), [list(INSERT)], [("table",)], [("tables", [])], [("block", 21, [])], [("block", True, [])],
    [("block", [])], [("answer", 1, [])], [INSERT, None], *[[("table", thing)] for thing in NO_OCTETS],
]


class LogErrorsTest(unittest.TestCase):
    def check(self, error, function, *arguments):
        before = repr(arguments)
        with self.subTest(function=function.__name__, arguments=before), self.assertRaises(error) as caught:
            function(*arguments)
        self.assertIs(type(caught.exception), error)
        self.assertEqual(repr(arguments), before)
        return caught.exception

    def test_what_is_no_setting(self):
        for function, more in ALL:
            for thing in NO_SETTINGS:
                self.check(NoSetting, function, thing, [INSERT], *more)
                self.check(NoSetting, function, thing, None, *[None for _ in more])
            self.check(NoSetting, function, None, [done(1)], *more)
            self.check(NoSetting, function, None, [table("again", 5)], *more)

    def test_what_is_no_log(self):
        for function, more in ALL:
            for thing in NO_LOGS:
                self.check(NoLog, function, SETTING, thing, *more)
            self.check(NoLog, function, SETTING, None, *[None for _ in more])
            self.check(NoLog, function, SETTING, [done(1), None], *more)

    def test_what_is_no_order(self):
        for function in (run_order, fails):
            for thing in ODD_THINGS + [(("send",),)]:
                if not isinstance(thing, list):
                    self.assertEqual(self.check(BadOrder, function, SETTING, [INSERT], thing).number, 0)

    def test_an_answer_that_cannot_take_place(self):
        for function, more in JUDGING:
            for log, event in [
                ([done(1)], 0), ([INSERT, received(2)], 1), ([INSERT, ("answer", []), ("table", [])], 1),
                ([INSERT, block(1, 1, 0), done(1), done(1)], 3), ([block(k, 0, 0) for k in range(21)] + [done(1)], 21),
            ]:
                self.assertEqual(self.check(NoAnswer, function, SETTING, log, *more).event, event)
            for last in [None, 0]:
                self.check(NoAnswer, function, SETTING, [done(1)], *[last for _ in more])

    def test_a_log_that_is_not_good(self):
        for function in (ledger, widest, all_states):
            self.check(NoLog, function, SETTING, [("table", [])])
            self.check(NoLog, function, SETTING, [("table", []), done(1)])
        self.check(NoLog, are_states, SETTING, [("table", [])], [])
        self.check(NoLog, are_states, SETTING, [("table", []), done(1)], None)
        self.check(TooManyStates, are_states, SETTING, [block(k % 20, 0, 0) for k in range(40)], None)

    def test_errors_are_errors_of_the_package(self):
        for error in (NoSetting, NoLog, BadOrder, NoAnswer, TooManyStates):
            self.assertTrue(issubclass(error, FieldError))

    def test_logs_with_answers_that_cannot_take_place_have_orders(self):
        for log in [[done(1)], [INSERT, received(5)], [("answer", [])]]:
            self.assertEqual(run_order(SETTING, log, []), ([], (), 0))
            self.assertIs(fails(SETTING, log, []), False)


class ValuesTest(unittest.TestCase):
    LOGS = [
        [], [INSERT, block(1, 1, 0, ("entry", 0)), done(1), INSERT, received(1)], [INSERT, block(1, 1, 0), block(2, 1, 0)],
        [INSERT, block(1, 1, 0, ("entry", 0)), table("limit", 0)], [INSERT, ("table", [])], [done(1)],
    ]

    def result(self, function, *arguments):
        try:
            return function(*arguments)
        except FieldError as error:
            return type(error), vars(error)

    def test_arguments_are_the_same_behind_a_call(self):
        orders = [[], [("send",), ("table",)], [("send",), ("send",), ("block", 1), ("table",)], [("send",), None], [("tell", 9)]]
        for log in self.LOGS:
            for function, more in ALL:
                for order in orders if function in (run_order, fails) else [[]]:
                    arguments = [copy.deepcopy(SETTING), copy.deepcopy(log)] + [copy.deepcopy(order) for _ in more]
                    first = self.result(function, *arguments)
                    self.assertEqual(arguments, [SETTING, log] + [order for _ in more])
                    self.assertEqual(self.result(function, *arguments), first)

    def lists_in(self, thing):
        found = [thing] if isinstance(thing, (list, dict)) else []
        for part in thing if isinstance(thing, (list, tuple)) else []:
            found += self.lists_in(part)
        return found

    def test_lists_that_are_returned_are_new(self):
        for log in self.LOGS:
            given = {id(each) for each in self.lists_in(log)}
            for function, more in ALL:
                results = [self.result(function, SETTING, log, *copy.deepcopy(more)) for _ in range(2)]
                expected = copy.deepcopy(results[0])
                found = self.lists_in(results[0]) + self.lists_in(results[1])
                self.assertEqual(len({id(each) for each in found}), len(found))
                self.assertEqual(given & {id(each) for each in found}, set())
                for each in found:
                    if isinstance(each, list):
                        each.append("more")
                self.assertEqual(self.result(function, SETTING, log, *copy.deepcopy(more)), expected)

    def test_kinds_of_values(self):
        good, bad = self.LOGS[1], self.LOGS[2]
        self.assertIs(type(judge(SETTING, good)), tuple)
        self.assertEqual([type(part) for part in judge(SETTING, bad)], [str, int, list])
        self.assertEqual([type(row) for row in ledger(SETTING, good)], [tuple] * 5)
        self.assertEqual([type(part) for part in repair(SETTING, bad)], [int, list])
        self.assertEqual([type(part) for part in widest(SETTING, good)], [int, list])
        self.assertEqual([type(part) for part in run_order(SETTING, good, [])], [list, tuple, int])
        self.assertIs(type(all_states(SETTING, good)), list)
        for state in all_states(SETTING, good):
            self.assertEqual([type(part) for part in state], [int, int, tuple, int, tuple])
        for order in [judge(SETTING, bad)[2], widest(SETTING, good)[1]]:
            self.assertTrue(all(type(step) is tuple and type(step[0]) is str for step in order))


if __name__ == "__main__":
    unittest.main()
