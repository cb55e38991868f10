"""Logs, orders and their steps (point 13)."""

import copy
import random
import unittest

from fieldtable.errors import BadOrder
from fieldtable.judging import judge
from fieldtable.orders import fails, is_log, run_order
from tests import logs
from tests.logs import block, cancelled, done, received, table
from tests.samples import NO_OCTETS, ODD_THINGS
from tests.slow_world import SlowWorld, drawn_order

SETTING = ((("h", "x"),), 60, 1)
# What is no step, wherever it stands.
NO_STEPS = ODD_THINGS + [
    "send", "table", ["send"], ["block", 1], ("sends",), ("Send",), ("answer",), ("tell",), ("cancel",), ("block",),
    ("send", 1), ("table", 1), ("send", ()), ("block", 1, 1), ("tell", 1, 1), ("cancel", 1, 1), ((),), ([],), ({},),
    (None,), (b"send",), (1,), ("block", -1), ("block", 21), ("block", True), ("block", "1"), ("block", 1.0),
    ("block", None), ("block", []), ("block", {}), ("block", (1,)), ("cancel", -1), ("cancel", 21), ("cancel", True),
    ("cancel", "1"), ("cancel", 1.0), ("cancel", None), ("cancel", []), ("cancel", {}), ("tell", True), ("tell", "1"),
    ("tell", 1.0), ("tell", None), ("tell", []), ("tell", {}), ("send", "send"), ([], 1), ({}, 1), (None, 1), ("", 1),
    ("blocks", 1), ("told", 1), ("received", 1), ("done", 1), ("cancelled", 1), ("block", 10 ** 20), ("cancel", -10 ** 20),
]
INSERT = table("new", "a", "x")


class IsLogTest(unittest.TestCase):
    def check(self, answer, *things):
        for thing in things:
            before = repr(thing)
            with self.subTest(thing=thing):
                self.assertIs(is_log(thing), answer)
                self.assertEqual(repr(thing), before)

    def test_events_of_each_kind(self):
        self.check(
            True, [], [("table", [])], [("block", 0, [])], [("answer", [])], [("block", 20, [255])],
            [INSERT, block(3, 1, 0, ("entry", 0)), done(3), received(1), cancelled(4), INSERT],
        )

    def test_octets_may_be_any(self):
        for octets in [[], [0], [255], [255] * 30, list(range(256)), [1, 0, 128], [7] * 2000]:
            self.check(True, [("table", octets)], [("block", 7, octets)], [("answer", octets)])

    def test_forty_and_forty_one_events(self):
        for event in [("table", []), ("block", 1, []), ("answer", []), INSERT, done(1)]:
            self.check(True, [event] * 39, [event] * 40)
            self.check(False, [event] * 41, [event] * 2000)

    def test_one_bad_event_among_good_ones(self):
        self.check(False, [INSERT, INSERT, None], [INSERT, ("table", [256]), INSERT], [["table", []], INSERT])

    def test_other_words(self):
        for word in ["", "Table", "tables", "send", "done", "again", "entry", b"table", None, 0, True, (), [], {}, ["table"]]:
            self.check(False, [(word, [])], [(word, 1, [])])
        self.check(False, [("table", 1, [])], [("answer", 1, [])], [("block", [])], [("block", 1)])

    def test_streams(self):
        self.check(True, [("block", 0, [])], [("block", 20, [])])
        for stream in [-1, 21, 10 ** 20, -10 ** 20, True, False, 1.0, "1", None, (), [], {}, [1]]:
            self.check(False, [("block", stream, [])])

    def test_what_are_no_octets(self):
        for thing in NO_OCTETS:
            self.check(False, [("table", thing)], [("block", 1, thing)], [("answer", thing)])

    def test_events_too_short_or_too_long(self):
        self.check(
            False, [()], [("table",)], [("answer",)], [("block",)], [("table", [], [])], [("answer", [], [])],
            [("block", 1, [], [])], [("block", 1, [], 1)], [("table", [], None)], [("block", [], 1)],
        )

    def test_lists_in_place_of_tuples_and_the_reverse(self):
        self.check(
            False, ["table", []], [["table", []]], [["block", 1, []]], (("table", []),), (), ("table", []),
            {"table": []}, {0: INSERT}, [{"table": []}], [INSERT, [INSERT]], [[]],
        )

    def test_other_values(self):
        for thing in ODD_THINGS:
            self.check(isinstance(thing, list) and not thing, thing)
            self.check(False, [thing])
            self.check(False, [INSERT, thing])


class OrdersTest(unittest.TestCase):
    def check(self, log, order, result, failing=False, setting=SETTING):
        before = copy.deepcopy((log, order))
        self.assertEqual(run_order(setting, log, order), result)
        self.assertIs(fails(setting, log, order), failing)
        self.assertEqual(SlowWorld(setting, log).run(order), result)
        self.assertEqual((log, order), before)

    def check_bad(self, log, order, number, setting=SETTING):
        before = copy.deepcopy(log)
        for function in (run_order, fails):
            with self.subTest(function=function.__name__, order=order), self.assertRaises(BadOrder) as caught:
                function(setting, log, order)
            self.assertEqual(caught.exception.number, number)
        self.assertEqual(log, before)

    def test_no_steps(self):
        self.check([], [], ([], (), 0))
        self.check([INSERT, block(3, 1, 0, ("entry", 0))], [], ([], (), 0))

    def test_each_kind_of_step(self):
        log = [INSERT, block(3, 1, 0, ("entry", 0)), done(3), INSERT, received(1), cancelled(5)]
        order = [("send",), ("send",), ("block", 3)]
        self.check(log, order, ([], (3,), 0))
        order = order + [("table",)]
        said = [(3, (("a", "x"),))]
        self.check(log, order, (said, (), 1))
        order = order + [("send",), ("send",), ("table",), ("tell", 1), ("send",), ("cancel", 5), ("send",)]
        self.check(log, order, (said, (), 2))
        self.check_bad(log, order + [("send",)], len(order))

    def test_order_cut_off_anywhere(self):
        log = [INSERT, block(3, 1, 0, ("entry", 0)), block(3, 0, 0), done(3), INSERT]
        order = [("send",)] * 3 + [("block", 3), ("block", 3), ("table",), ("send",), ("send",), ("table",)]
        said = [(3, (("a", "x"),)), (3, ())]
        results = [([], (), 0)] * 4 + [([], (3,), 0)] * 2 + [(said, (), 1)] * 3 + [(said, (), 2)]
        for length, result in enumerate(results):
            self.check(log, order[:length], result)

    def test_what_is_no_order(self):
        for thing in ODD_THINGS + [(), (("send",),), {0: ("send",)}, "send", iter([])]:
            if not isinstance(thing, list):
                self.check_bad([INSERT], thing, 0)

    def test_what_is_no_step(self):
        log = [INSERT, block(1, 1, 0, ("entry", 0)), done(1)]
        for thing in NO_STEPS:
            self.check_bad(log, [thing], 0)
            self.check_bad(log, [("send",), ("table",), ("send",), thing], 3)
            self.check_bad(log, [("send",), thing, ("send",), thing], 1)

    def test_nothing_is_sent_any_more(self):
        self.check_bad([], [("send",)], 0)
        self.check_bad([INSERT], [("send",), ("send",)], 1)

    def test_nothing_is_under_way(self):
        log = [INSERT, block(1, 0, 0), INSERT]
        self.check_bad(log, [("table",)], 0)
        self.check_bad(log, [("block", 1)], 0)
        self.check_bad(log, [("send",), ("table",), ("table",)], 2)
        self.check_bad(log, [("send",), ("block", 1)], 1)
        self.check_bad(log, [("send",), ("send",), ("block", 0)], 2)
        self.check_bad(log, [("send",), ("send",), ("block", 1), ("block", 1)], 3)
        self.check(log, [("send",), ("send",), ("block", 1), ("table",)], ([(1, ())], (), 1))

    def test_instructions_and_blocks_arrive_in_the_order_in_which_they_were_sent(self):
        log = [INSERT, table("new", "b", ""), block(1, 0, 0, ("out", "c", "")), block(1, 2, 0, ("entry", 1)), block(0, 0, 0)]
        said = [(1, (("c", ""),)), (0, ()), (1, (("b", ""),))]
        order = [("send",)] * 5 + [("block", 1), ("block", 0), ("table",), ("block", 1), ("table",)]
        self.check(log, order, (said, (), 2))

    def test_an_answer_that_is_not_the_next_one_made(self):
        log = [INSERT, block(1, 1, 0), block(2, 1, 0), done(1), done(2), received(1)]
        start = [("send",), ("send",), ("send",), ("table",)]
        self.check_bad(log, start + [("send",)], 4)
        self.check_bad(log, start + [("block", 2), ("send",)], 5)
        self.check_bad(log, start + [("block", 2), ("block", 1), ("send",)], 6)
        self.check_bad(log, start + [("tell", 1), ("block", 1), ("send",)], 6)
        self.check_bad(log, start + [("cancel", 9), ("block", 1), ("send",)], 6)
        both = [(1, ()), (2, ())]
        self.check(log, start + [("block", 1), ("send",), ("block", 2), ("send",)], (both, (), 1))
        self.check(log, start + [("block", 1), ("block", 2), ("send",), ("send",)], (both, (), 1))
        self.check_bad(log, start + [("block", 1), ("block", 2), ("send",), ("send",), ("send",)], 8)

    def test_an_answer_takes_place_once(self):
        log = [INSERT, received(1), received(1), INSERT]
        self.check_bad(log, [("send",), ("table",), ("tell", 1), ("send",), ("send",)], 4)

    def test_an_answer_with_another_number(self):
        log = [INSERT, INSERT, received(1), received(1)]
        start = [("send",), ("send",), ("table",), ("table",)]
        self.check_bad(log, start + [("tell", 2), ("send",)], 5)
        self.check(log, start + [("tell", 1), ("tell", 1), ("send",), ("send",)], ([], (), 2))

    def test_octets_that_are_not_just_one_answer(self):
        for octets in [[], [129, 129], [129, 0], [63], [0], [255], [86], [149], [1, 1]]:
            log = [INSERT, block(1, 1, 0), block(1, 1, 0), INSERT, INSERT, ("answer", octets)]
            order = [("send",)] * 5 + [("table",), ("block", 1), ("block", 1), ("table",), ("tell", 1), ("table",), ("tell", 1)]
            self.check(log, order, ([(1, ()), (1, ())], (), 3))
            self.check_bad(log, order + [("send",)], len(order))

    def test_long_answers(self):
        setting = ((), 0, 0)
        log = [("answer", [127 - 64, 0])]
        self.check_bad(log, [("send",)], 0, setting)
        log = [table("new", "a", ""), cancelled(20)]
        self.check(log, [("send",), ("cancel", 20), ("send",)], ([], (), 0))

    def test_tell_that_raises_an_error(self):
        log = [INSERT, INSERT, block(1, 2, 0)]
        self.check_bad(log, [("tell", 1)], 0)
        start = [("send",), ("send",), ("send",), ("table",)]
        for n in [0, -1, 2, 10 ** 20, -10 ** 20]:
            self.check_bad(log, start + [("tell", n)], 4)
        self.check_bad(log, start + [("tell", 1), ("tell", 1)], 5)
        self.check_bad(log, start + [("table",), ("block", 1), ("tell", 1)], 6)
        self.check(log, start + [("tell", 1), ("table",), ("tell", 1)], ([], (), 2))

    def test_cancel_that_raises_an_error(self):
        self.check([], [("cancel", 0), ("cancel", 20)], ([], (), 0))
        self.check_bad([], [("cancel", 0), ("cancel", 20), ("cancel", 0)], 2)

    def test_a_stream_that_was_cancelled(self):
        log = [block(1, 1, 0), ("block", 1, [255, 255]), block(2, 1, 0), INSERT]
        order = [("send",)] * 4 + [("block", 1), ("cancel", 1), ("block", 1), ("block", 2), ("table",)]
        self.check(log, order, ([(2, ())], (), 1))
        self.check_bad(log, order + [("block", 1)], len(order))

    def test_a_last_step_that_raises_an_error_of_the_receiver(self):
        setting = ((), 12, 1)
        cases = [
            ([("table", [0])], [("send",), ("table",)]),
            ([("block", 1, [])], [("send",), ("block", 1)]),
            ([block(1, 0, 0, ("fixed", 0))], [("send",), ("block", 1)]),
            ([block(1, 1, 0), block(2, 1, 0)], [("send",), ("send",), ("block", 1), ("block", 2)]),
            # The block is read by the step of the table that lets the entry in, or by its own step.
            ([INSERT, block(1, 1, 0, ("entry", 0)), table("limit", 0)],
             [("send",)] * 3 + [("table",), ("table",), ("block", 1)]),
            ([block(1, 1, 0, ("fixed", 0)), INSERT], [("send",), ("send",), ("block", 1), ("table",)]),
        ]
        for log, order in cases:
            self.check(log, order, None, True, setting)
            for step in [("send",), ("table",), ("block", 1), ("tell", 1), ("cancel", 3), None, ("a", "b")]:
                self.check_bad(log, order + [step], len(order), setting)
                self.check_bad(log, order + [step, None], len(order), setting)

    def test_octets_that_are_no_instruction(self):
        for octets in [[], [65], [65, 97, 1], [65, 97, 1, 120, 0], INSERT[1] * 2, [95, 255], [64], [0, 0], [1]]:
            log = [INSERT, ("table", octets), INSERT]
            self.check(log, [("send",), ("send",), ("table",)], ([], (), 1))
            self.check(log, [("send",), ("send",), ("send",), ("table",), ("table",)], None, True)
            self.check_bad(log, [("send",), ("send",), ("send",), ("table",), ("table",), ("table",)], 5)

    def test_octets_that_are_no_block(self):
        for octets in [[], [0], [0, 1], [0, 0, 128], [1, 0, 128, 255], [0, 0, 33, 97]]:
            log = [("block", 4, octets)]
            self.check(log, [("send",)], ([], (), 0))
            self.check(log, [("send",), ("block", 4)], None, True)
            self.check(log, [("send",), ("cancel", 4), ("block", 4)], ([], (), 0))

    def test_an_order_fails_if_a_stream_waits_when_all_has_arrived(self):
        log = [block(1, 1, 0), INSERT, INSERT]
        start = [("send",), ("block", 1)]
        self.check(log, start[:1], ([], (), 0), False)
        self.check(log, start, ([], (1,), 0), True)
        self.check(log, start + [("send",)], ([], (1,), 0), False)
        self.check(log, start + [("send",), ("table",)], ([(1, ())], (), 1), False)
        self.check(log, start + [("cancel", 1)], ([], (), 0), False)
        self.check(log, start + [("cancel", 2)], ([], (1,), 0), True)

    def test_a_block_under_way_keeps_an_order_from_failing(self):
        log = [block(1, 1, 0), block(2, 0, 0), block(1, 0, 0)]
        start = [("send",), ("block", 1), ("send",)]
        self.check(log, start, ([], (1,), 0), False)
        self.check(log, start + [("block", 2)], ([(2, ())], (1,), 0), True)
        self.check(log, start + [("block", 2), ("send",)], ([(2, ())], (1,), 0), False)
        self.check(log, start + [("block", 2), ("send",), ("block", 1)], ([(2, ())], (1,), 0), True)

    def test_as_many_streams_wait_as_the_setting_says(self):
        for waiting in range(5):
            setting = ((), 60, waiting)
            log = [block(stream, 1, 0) for stream in range(6)] + [INSERT]
            order = [("send",)] * 7 + [("block", stream) for stream in range(waiting)]
            self.check(log, order, ([], tuple(range(waiting)), 0), False, setting)
            self.check(log, order + [("block", 5)], None, True, setting)

    def test_orders_of_more_than_a_hundred_steps(self):
        log = [INSERT] * 20 + [block(stream, stream + 1, 0, ("entry", stream)) for stream in range(20)]
        order = [("send",)] * 40
        for stream in range(20):
            order += [("block", stream), ("cancel", stream), ("table",)]
        order += [("tell", 1)] * 20
        setting = ((), 120, 1)
        self.assertGreater(len(order), 110)
        self.check(log, order, ([], (), 20), False, setting)
        self.check_bad(log, order + [("tell", 1)], len(order), setting)
        order = [("send",)] * 40 + [step for stream in range(20) for step in [("table",), ("tell", 1), ("block", stream)]]
        order += [("cancel", stream) for stream in range(21)]
        said = [(stream, (("a", "x"),)) for stream in range(20)]
        self.check(log, order, (said, (), 20), False, setting)

    def test_a_call_says_nothing_of_a_later_one(self):
        log = [INSERT, block(3, 1, 0, ("entry", 0))]
        order = [("send",), ("send",), ("table",), ("block", 3)]
        first = run_order(SETTING, log, order)
        self.assertEqual(first, ([(3, (("a", "x"),))], (), 1))
        first[0].append("more")
        self.assertEqual(run_order(SETTING, log, order)[0], [(3, (("a", "x"),))])
        log[0] = table("new", "b", "y")
        self.assertEqual(run_order(SETTING, log, order)[0], [(3, (("b", "y"),))])
        order[3] = ("cancel", 3)
        self.assertEqual(run_order(SETTING, log, order)[0], [])


class DrawnOrdersTest(unittest.TestCase):
    def test_drawn_orders(self):
        ends = {"error": 0, "bad": 0, "fails": 0, "goes": 0}
        for seed in range(500):
            chance = random.Random(seed)
            setting = logs.drawn_setting(chance)
            odd = chance.choice([0.1, 1.0])
            log = logs.drawn_log(
                chance, setting, chance.randint(1, 12), [0, 3, 7],
                lambda setting, log: logs.is_good(setting, log) or chance.random() < odd,
            )
            world = SlowWorld(setting, log)
            for _ in range(4):
                order, place = drawn_order(chance, world, chance.choice([4, 8, 40]))
                expected = world.run(order)
                with self.subTest(seed=seed, order=order):
                    if isinstance(expected, str):
                        ends["bad"] += 1
                        for function in (run_order, fails):
                            with self.assertRaises(BadOrder) as caught:
                                function(setting, log, order)
                            self.assertEqual(caught.exception.number, int(expected))
                        continue
                    self.assertEqual(run_order(setting, log, order), expected)
                    failing = expected is None or world.fails(place)
                    self.assertIs(fails(setting, log, order), failing)
                    ends["error" if expected is None else "fails" if failing else "goes"] += 1
        self.assertGreater(min(ends.values()), 20, ends)

    def test_drawn_orders_of_good_logs_never_fail(self):
        seen = 0
        for seed in range(400):
            chance = random.Random(seed)
            setting = logs.drawn_setting(chance)
            log = logs.drawn_log(chance, setting, chance.randint(3, 14), [0, 3, 7], logs.is_good)[:-1]
            self.assertEqual(judge(setting, log), ("good",))
            world = SlowWorld(setting, log)
            for _ in range(3):
                order, place = drawn_order(chance, world, 60)
                if isinstance(world.run(order), str):
                    continue
                self.assertIs(fails(setting, log, order), False)
                lists, waiting, _ = run_order(setting, log, order)
                self.assertLessEqual(len(waiting), setting[2])
                self.assertEqual(waiting, world.waiting(place))
                written = logs.written(setting, log)
                for stream in {stream for stream, _ in lists}:
                    read = [fields for other, fields in lists if other == stream]
                    self.assertEqual(read, written[stream][:len(read)])
                seen += len(lists)
        self.assertGreater(seen, 500)


if __name__ == "__main__":
    unittest.main()
