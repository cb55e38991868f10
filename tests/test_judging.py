"""Judging logs: judge and repair (points 14, 15 and 19)."""

import copy
import random
import unittest

from fieldtable.errors import NoAnswer
from fieldtable.instructions import write_answer
from fieldtable.judging import judge, ledger, repair, widest
from fieldtable.orders import fails
from fieldtable.states import all_states
from tests import logs
from tests.logs import block, cancelled, done, received, table
from tests.slow_sender import slow_ledger
from tests.slow_world import SlowWorld

NARROW = ((("h", "x"),), 12, 1)
INSERT = table("new", "a", "x")
WHOLE = ("entry", 0)


class LogsTest(unittest.TestCase):
    def check_good(self, setting, log):
        before = copy.deepcopy(log)
        self.assertEqual(judge(setting, log), ("good",))
        self.assertIsNone(repair(setting, log))
        self.assertEqual(log, before)

    def check_bad(self, setting, log, event, answers=None):
        """Check the first bad event, the order for it, and what repair says."""
        before = copy.deepcopy(log)
        word, number, order = judge(setting, log)
        self.assertEqual((word, number), ("bad", event))
        self.assertIs(type(order), list)
        self.assertIs(fails(setting, log, order), True)
        self.assertEqual(order.count(("send",)), event + 1)
        result = SlowWorld(setting, log).run(order)
        self.assertTrue(result is None or result[1])
        self.check_good(setting, log[:event])
        self.assertEqual(judge(setting, log[:event + 1])[:2], ("bad", event))
        self.assertEqual(repair(setting, log), answers and (event, answers))
        if answers:
            self.check_repaired(setting, log, event, answers)
        self.assertEqual(log, before)

    def check_repaired(self, setting, log, event, answers):
        def with_answers(some):
            return log[:event] + [("answer", write_answer(answer)) for answer in some] + [log[event]]

        self.assertEqual(judge(setting, with_answers(answers)), ("good",))
        for at, (kind, number) in enumerate(answers):
            fewer = answers[:at] + answers[at + 1:]
            if kind == "received" and number > 1:
                fewer = [(kind, number - 1)]
            self.assertEqual(judge(setting, with_answers(fewer))[:2], ("bad", event + len(fewer)))

    def check_none(self, setting, log, event):
        for function in (judge, repair):
            before = copy.deepcopy(log)
            with self.assertRaises(NoAnswer) as caught:
                function(setting, log)
            self.assertEqual(caught.exception.event, event)
            self.assertEqual(log, before)
        self.check_good(setting, log[:event])


class GoodLogsTest(LogsTest):
    def test_good_logs(self):
        for log in [
            [], [INSERT], [block(3, 0, 0)], [block(3, 0, 0, ("fixed", 0), ("fixed", 0, "z"), ("out", "b", "y"))],
            [INSERT, INSERT, INSERT], [table("fixed", 0, "y"), table("entry", 0, "z"), table("again", 0)],
            [table("limit", 0), block(1, 0, 0), table("limit", 12), INSERT],
            [INSERT, block(1, 1, 0, WHOLE), block(1, 1, 1, WHOLE), block(1, 1, 0, ("entry", 0, "z"))],
            [INSERT, block(1, 1, 1, WHOLE), done(1), INSERT, INSERT, table("limit", 0)],
            [INSERT, block(1, 1, 1, WHOLE), done(1), block(2, 1, 1, WHOLE), block(3, 1, 1, WHOLE)],
            [INSERT, received(1), block(1, 1, 1, WHOLE), block(2, 1, 1, WHOLE), done(2), done(1), table("limit", 0)],
            [INSERT, block(1, 1, 1, WHOLE), cancelled(1), block(2, 1, 1, WHOLE), cancelled(2), table("limit", 0)],
            [cancelled(0), cancelled(20), cancelled(5)],
            [INSERT, block(1, 0, 0, ("out", "a", "")), block(1, 1, 0, WHOLE), block(1, 0, 0), done(1)],
        ]:
            with self.subTest(log=log):
                self.check_good(NARROW, log)

    def test_a_block_that_requires_more_than_it_refers_to(self):
        # Nothing is held by it, but its stream may wait.
        self.check_good(NARROW, [INSERT, block(1, 1, 0), table("limit", 0)])
        self.check_bad(NARROW, [INSERT, block(1, 1, 0), block(2, 1, 0)], 2, [("received", 1)])

    def test_whatever_is_sent_on_a_stream_that_was_cancelled(self):
        log = [INSERT, cancelled(4)]
        for event in [
            ("block", 4, []), ("block", 4, [255]), block(4, 9, 0), block(4, 0, 0, ("fixed", 7)), block(4, 1, 0, WHOLE),
        ]:
            self.check_good(NARROW, log + [event, event, block(5, 1, 0), table("limit", 0), event])
            self.check_none(NARROW, log + [event, done(4)], 3)

    def test_forty_events(self):
        setting = ((), 120, 4)
        log = [INSERT] + [block(stream % 4, 1, 1, WHOLE) for stream in range(16)] + [done(stream % 4) for stream in range(16)]
        log += [table("limit", 5), INSERT, table("limit", 0), table("limit", 6), INSERT, received(2), block(9, 3, 0, ("entry", 2))]
        self.assertEqual(len(log), 40)
        self.check_bad(setting, log, 34)
        log[33] = table("limit", 6)
        self.check_good(setting, log)
        self.check_bad(setting, log[:-1] + [table("limit", 121)], 39)
        self.check_bad(setting, log[:20] + log[21:37] + [table("limit", 0)], 33, [("done", 3)])

    def test_a_log_that_was_changed_in_place_is_judged_anew(self):
        log = [INSERT, block(1, 1, 0, WHOLE), table("limit", 0)]
        self.assertEqual(judge(NARROW, log)[:2], ("bad", 2))
        log.insert(2, done(1))
        self.assertEqual(judge(NARROW, log), ("good",))
        log[0][1][1] = 33
        self.assertEqual(judge(NARROW, log)[:2], ("bad", 0))
        log[0][1][1] = 97
        del log[1]
        with self.assertRaises(NoAnswer):
            judge(NARROW, log)


class BadLogsTest(LogsTest):
    def test_octets_that_are_not_just_one_instruction(self):
        for octets in [[], [65], INSERT[1][:-1], INSERT[1] * 2, [0, 0], [255], [95, 255, 255], [64, 0], INSERT[1] + [0]]:
            self.check_bad(NARROW, [INSERT, ("table", octets), INSERT], 1)
            self.check_bad(NARROW, [("table", octets)], 0)

    def test_an_instruction_that_cannot_be_carried_out(self):
        for instruction in [
            ("fixed", 1, ""), ("entry", 1, ""), ("again", 1), ("entry", 9999, ""), ("new", "a" * 8, "x"),
            ("new", "a", "x" * 8), ("limit", 13), ("limit", 9999), ("fixed", 0, "x" * 8),
        ]:
            log = [INSERT, block(3, 1, 0, WHOLE), table(*instruction), INSERT]
            self.check_bad(NARROW, log, 2)
        self.check_bad(NARROW, [table("again", 0)], 0)
        self.check_bad(NARROW, [table("limit", 5), INSERT], 1)
        self.check_bad(((), 0, 0), [table("new", "a", "")], 0)

    def test_held_entries_that_leave(self):
        other = table("new", "b", "y")
        self.check_bad(NARROW, [INSERT, block(1, 1, 0, WHOLE), table("limit", 5)], 2, [("done", 1)])
        self.check_bad(NARROW, [INSERT, block(1, 1, 0, ("entry", 0, "z")), table("limit", 5)], 2, [("done", 1)])
        self.check_bad(NARROW, [INSERT, other, block(1, 1, 0, WHOLE), table("again", 1)], 3, [("done", 1)])
        self.check_bad(NARROW, [INSERT, other, block(1, 2, 0, WHOLE), table("entry", 1, "z")], 3, [("done", 1)])
        self.check_good(NARROW, [INSERT, other, block(1, 2, 0, ("entry", 1)), other])
        self.check_bad(NARROW, [INSERT, other, block(1, 2, 0, ("entry", 1)), other, other], 4, [("done", 1)])

    def test_repair_names_as_many_done_as_are_needed(self):
        setting = ((), 60, 4)
        log = [INSERT, table("new", "b", "y"), block(7, 1, 0, WHOLE), block(7, 2, 0), block(7, 0, 0), block(7, 1, 0, WHOLE)]
        log += [block(7, 2, 0, ("entry", 1)), block(2, 2, 0, ("entry", 1)), block(0, 2, 0, ("entry", 1)), block(0, 1, 0, WHOLE)]
        self.check_bad(setting, log + [table("limit", 10)], 10, [("done", 0)] * 2 + [("done", 7)] * 3)
        self.check_bad(setting, log + [table("limit", 0)], 10, [("done", 0)] * 2 + [("done", 2)] + [("done", 7)] * 4)
        more = log + [done(7), done(0), done(7), cancelled(2)]
        self.check_bad(setting, more + [table("limit", 7)], 14, [("done", 0), ("done", 7)])
        self.check_good(setting, more + [done(0), done(7), table("limit", 7)])
        self.check_bad(setting, more + [done(0), done(7), table("limit", 0)], 16, [("done", 7)])

    def test_a_block_that_can_never_be_read(self):
        log = [INSERT, table("limit", 5), table("limit", 12), INSERT]
        for octets in [[], [0], [0, 0, 255], [1, 0, 128, 128, 33], [0, 0, 128], [1, 2]]:
            self.check_bad(NARROW, log + [("block", 3, octets)], 4)
        for event in [
            block(3, 0, 0, ("fixed", 1)), block(3, 0, 0, ("fixed", 1, "x")), block(3, 1, 0, WHOLE), block(3, 2, 0, WHOLE),
            block(3, 2, 0, ("entry", 1), ("entry", 0, "z")), block(3, 3, 0), block(3, 3, 0, ("entry", 2)), block(3, 9999, 0),
        ]:
            self.check_bad(NARROW, log + [event, INSERT, INSERT], 4)
        self.check_good(NARROW, log + [block(3, 2, 0, ("entry", 1))])

    def test_a_block_behind_one_that_may_wait(self):
        log = [INSERT, block(3, 1, 0, WHOLE)]
        self.check_bad(NARROW, log + [block(3, 0, 0, ("fixed", 1))], 2)
        self.check_bad(NARROW, log + [("block", 3, [])], 2)
        self.check_bad(NARROW, log + [block(3, 2, 0)], 2)

    def test_too_many_streams_that_may_wait(self):
        for waiting in range(5):
            setting = ((), 60, waiting)
            log = [INSERT] + [block(stream, 1, 1, WHOLE) for stream in range(waiting)]
            self.check_good(setting, log)
            self.check_bad(setting, log + [block(9, 1, 0, WHOLE), INSERT], waiting + 1, [("received", 1)])
            self.check_good(setting, log + [received(1), block(9, 1, 0, WHOLE), block(10, 1, 0, WHOLE)])
            if waiting:
                self.check_good(setting, log + [block(0, 1, 0, WHOLE)])
                self.check_good(setting, log + [done(0), block(8, 1, 1, WHOLE), block(9, 1, 1, WHOLE)])
                self.check_good(setting, log + [cancelled(0), block(8, 1, 1, WHOLE)])

    def test_repair_tells_of_the_fewest_insertions(self):
        log = [INSERT] * 5
        for requireds, n in [((5, 4), 4), ((4, 5), 4), ((5, 5), 5), ((1, 5), 1), ((5, 1), 1), ((3, 2), 2)]:
            blocks = [block(stream, required, 0) for stream, required in enumerate(requireds)]
            self.check_bad(((), 60, 1), log + blocks, 6, [("received", n)])
            self.check_bad(((), 60, 0), log + blocks, 5, [("received", requireds[0])])
        log += [block(1, 3, 0), block(2, 5, 0), block(1, 4, 0), received(1), block(1, 2, 0)]
        self.check_bad(((), 60, 2), log + [block(3, 3, 0)], 10, [("received", 2)])
        self.check_bad(((), 60, 2), log + [block(3, 5, 0)], 10, [("received", 3)])
        self.check_bad(((), 60, 2), log + [done(1), block(3, 5, 0)], 11, [("received", 1)])

    def test_repair_is_none_where_answers_do_not_help(self):
        # What could not be sent at all is no matter of held entries, nor of streams that may wait.
        log = [INSERT, block(1, 1, 0, WHOLE)]
        for event in [table("limit", 13), table("new", "a" * 8, "x"), ("table", []), block(2, 1, 0, ("fixed", 9)), block(2, 2, 0)]:
            self.check_bad(NARROW, log + [event], 2)

    def test_two_faults_in_one_block(self):
        setting = ((), 60, 0)
        self.check_bad(setting, [INSERT, block(1, 1, 0, ("fixed", 0))], 1)
        self.check_bad(setting, [INSERT, block(1, 2, 0)], 1)
        self.check_bad(setting, [block(1, 1, 0)], 0)

    def test_the_first_bad_event_counts(self):
        log = [INSERT, block(1, 1, 0, WHOLE), table("limit", 0), ("table", []), ("answer", []), block(2, 9, 0)]
        self.check_bad(NARROW, log, 2, [("done", 1)])

    def test_an_order_that_needs_answers_first(self):
        setting = ((), 12, 1)
        log = [INSERT, block(1, 1, 0, WHOLE), block(1, 0, 0), done(1), block(2, 1, 0, WHOLE), INSERT, received(1)]
        log += [cancelled(2), block(3, 2, 0, ("entry", 1)), block(4, 2, 0, ("entry", 1)), block(3, 2, 0, ("entry", 0))]
        log += [block(2, 99, 0)]
        self.check_good(setting, log)
        self.check_bad(setting, log + [INSERT], 12, [("done", 3)] * 2)
        self.check_bad(setting, log + [done(3), done(4), INSERT], 14, [("done", 3)])
        self.check_bad(setting, log + [done(3), done(3), INSERT, block(5, 3, 0), block(6, 3, 0)], 16, [("received", 1)])
        self.check_bad(setting, log + [done(3), done(3), INSERT, INSERT], 15, [("done", 4)])

    def test_instructions_that_the_answers_need_arrive_in_the_order(self):
        setting = ((), 60, 1)
        log = [INSERT, INSERT, INSERT, block(1, 2, 0, WHOLE), done(1), block(2, 3, 0), block(3, 3, 0)]
        self.check_bad(setting, log, 6, [("received", 1)])
        log = [INSERT, INSERT, INSERT, received(2), block(2, 2, 0), block(3, 3, 0), block(2, 3, 0)]
        self.check_bad(setting, log, 6, [("received", 1)])


class NoAnswerTest(LogsTest):
    def test_answers_that_cannot_take_place(self):
        log = [INSERT, block(1, 1, 0, WHOLE), block(2, 0, 0)]
        for more in [
            [done(2)], [done(3)], [received(2)], [done(1), done(1)], [done(1), received(1)], [received(1), received(1)],
            [cancelled(1), done(1)], [cancelled(1), cancelled(1)], [done(1), cancelled(1), cancelled(1)],
            [cancelled(7), cancelled(7)], [received(1), done(1), done(1)],
        ]:
            self.check_none(NARROW, log + more, 2 + len(more))
            self.check_none(NARROW, log + more + [("table", [])], 2 + len(more))
        self.check_none(NARROW, [received(1)], 0)
        self.check_none(NARROW, [received(1), INSERT], 0)

    def test_octets_that_are_not_just_one_answer(self):
        for octets in [[], [0], [63], [255], [85], [149], [129, 129], [129, 1], [1, 1], [128, 0]]:
            self.check_none(NARROW, [INSERT, block(1, 1, 0, WHOLE), block(1, 1, 0), ("answer", octets)], 3)

    def test_a_bad_event_ahead_of_it_counts(self):
        self.check_bad(NARROW, [INSERT, ("table", []), done(1)], 1)
        self.check_bad(NARROW, [block(1, 1, 0), ("answer", [])], 0)

    def test_a_bad_event_behind_it_does_not(self):
        self.check_none(NARROW, [INSERT, done(1), ("table", [])], 1)
        self.check_none(NARROW, [INSERT, block(1, 1, 0, WHOLE), received(2), table("limit", 0)], 2)


class AllOrdersTest(LogsTest):
    LETTERS = [
        INSERT, table("again", 0), table("limit", 0), ("table", []), block(1, 1, 0, WHOLE), block(2, 1, 1), block(1, 0, 0),
        done(1), received(1), cancelled(1),
    ]

    def check_slow(self, setting, log):
        """Check that a walk through all orders says the same, and return what it says."""
        slow = SlowWorld(setting, log).judge()
        if slow[0] == "good":
            self.check_good(setting, log)
        elif slow[0] == "none":
            self.check_none(setting, log, slow[1])
        else:
            repaired = repair(setting, log)
            self.check_bad(setting, log, slow[1], repaired and repaired[1])
            return slow + (repaired and repaired[1],)
        return slow

    def test_all_logs_of_few_events(self):
        for setting in [((), 6, 1), ((), 12, 0)]:
            good, seen = [[]], 0
            for _ in range(4):
                longer = []
                for log in good:
                    for letter in self.LETTERS:
                        seen += 1
                        with self.subTest(setting=setting, log=log, letter=letter):
                            if self.check_slow(setting, log + [letter]) == ("good",):
                                self.check_rest(setting, log + [letter])
                                longer.append(log + [letter])
                good = longer
            self.assertGreater(seen, 900)

    def check_rest(self, setting, log):
        """Check what else is said of a good log."""
        world = SlowWorld(setting, log)
        self.assertEqual(ledger(setting, log), slow_ledger(setting, log))
        self.assertEqual(widest(setting, log)[0], world.widest())
        self.assertEqual(all_states(setting, log), world.states())

    def test_a_walk_through_all_orders_says_the_same(self):
        seen = {"good": 0, "bad": 0, "none": 0, "done": 0, "received": 0}
        for seed in range(700):
            chance = random.Random(seed)
            setting = logs.drawn_setting(chance)
            log = logs.drawn_log(chance, setting, chance.randint(1, 7), chance.choice([[0, 3], [1, 2, 3]]), logs.is_good)
            with self.subTest(seed=seed, setting=setting, log=log):
                slow = self.check_slow(setting, log)
                seen[slow[0]] += 1
                if slow[2:] and slow[2]:
                    seen[slow[2][0][0]] += 1
        self.assertGreater(min(seen.values()), 4, seen)


if __name__ == "__main__":
    unittest.main()
