"""What holds behind the events of good logs: ledger and widest (points 15 and 16)."""

import copy
import random
import unittest

from fieldtable.errors import NoAnswer, NoLog
from fieldtable.judging import ledger, widest
from fieldtable.orders import fails, run_order
from tests import logs
from tests.logs import block, cancelled, done, received, table
from tests.slow_sender import slow_ledger
from tests.slow_world import SlowWorld

INSERT = table("new", "a", "x")
WHOLE = ("entry", 0)


class LedgerTest(unittest.TestCase):
    def check(self, setting, log, rows):
        before = copy.deepcopy(log)
        self.assertEqual(ledger(setting, log), rows)
        self.assertEqual(slow_ledger(setting, log), rows)
        self.assertEqual(log, before)

    def test_the_empty_log(self):
        self.check(((), 60, 1), [], [])

    def test_each_kind_of_event(self):
        self.check(((), 60, 2), [
            INSERT, table("new", "b", "y"), block(7, 2, 0, ("entry", 1), ("entry", 0, "z")), block(3, 1, 1, WHOLE),
            block(4, 0, 0), table("limit", 30), received(1), done(7), INSERT, block(7, 3, 0, ("entry", 1)),
            block(7, 3, 0, ("entry", 2)), cancelled(3), done(7), cancelled(7), ("block", 7, [255]), block(7, 9, 0),
            table("limit", 0),
        ], [
            (1, 0, (), ()), (2, 0, (), ()), (2, 0, (0, 1), (7,)), (2, 0, (0, 1), (3, 7)),
            (2, 0, (0, 1), (3, 7)), (2, 0, (0, 1), (3, 7)), (2, 1, (0, 1), (7,)), (2, 2, (0,), ()), (3, 2, (0,), ()), (3, 2, (0, 1), (7,)),
            (3, 2, (0, 1, 2), (7,)), (3, 2, (1, 2), (7,)), (3, 3, (2,), ()), (3, 3, (), ()), (3, 3, (), ()), (3, 3, (), ()), (3, 3, (), ()),
        ])

    def test_a_block_behind_one_that_requires_more(self):
        self.check(((), 60, 1), [
            INSERT, INSERT, block(1, 2, 0), block(1, 1, 0, WHOLE), received(1), done(1), done(1),
        ], [
            (1, 0, (), ()), (2, 0, (), ()), (2, 0, (), (1,)), (2, 0, (0,), (1,)), (2, 1, (0,), (1,)), (2, 2, (0,), ()),
            (2, 2, (), ()),
        ])

    def test_a_stream_that_was_cancelled_ahead_of_all(self):
        self.check(((), 6, 0), [cancelled(3), INSERT, block(3, 1, 0, WHOLE), table("limit", 0)], [
            (0, 0, (), ()), (1, 0, (), ()), (1, 0, (), ()), (1, 0, (), ()),
        ])

    def test_drawn_logs(self):
        held = 0
        for seed in range(400):
            chance = random.Random(seed)
            setting = logs.drawn_setting(chance)
            log = logs.drawn_log(chance, setting, chance.randint(1, 30), [0, 3, 7, 20], logs.is_good)[:-1]
            rows = slow_ledger(setting, log)
            self.check(setting, log, rows)
            held += sum(len(row[2]) for row in rows)
        self.assertGreater(held, 300)

    def test_the_answer_is_new(self):
        log = [INSERT, INSERT]
        first = ledger(((), 60, 1), log)
        del first[0]
        self.assertEqual(ledger(((), 60, 1), log), [(1, 0, (), ()), (2, 0, (), ())])


class WidestTest(unittest.TestCase):
    def check(self, setting, log, most):
        before = copy.deepcopy(log)
        number, order = widest(setting, log)
        self.assertEqual(number, most)
        self.assertIs(type(order), list)
        self.assertEqual(len(run_order(setting, log, order)[1]), most)
        self.assertEqual(len(SlowWorld(setting, log).run(order)[1]), most)
        self.assertIs(fails(setting, log, order), False)
        self.assertEqual(log, before)

    def test_none_waits(self):
        for log in [
            [], [INSERT], [block(1, 0, 0), block(2, 0, 0)], [INSERT, received(1), block(1, 1, 0, WHOLE)],
            [cancelled(1), block(1, 5, 0)],
        ]:
            self.check(((), 60, 3), log, 0)
        self.check(((), 60, 0), [INSERT, received(1), block(1, 1, 0, WHOLE), done(1)], 0)

    def test_as_many_as_the_setting_says(self):
        for waiting in range(5):
            log = [INSERT] + [block(stream, 1, 1, WHOLE) for stream in range(waiting)]
            self.check(((), 60, waiting), log, waiting)
            self.check(((), 60, 4), log, waiting)
            self.check(((), 60, 4), log + [received(1), block(20, 1, 0, WHOLE)], waiting)

    def test_the_most_wait_behind_the_first_events(self):
        log = [INSERT, block(1, 1, 0), block(2, 1, 0), cancelled(1), done(2), INSERT, block(3, 2, 0), done(3)]
        self.check(((), 60, 2), log, 2)
        self.check(((), 60, 2), [INSERT, received(1)] + log[5:], 1)

    def test_the_most_wait_behind_the_last_events(self):
        log = [INSERT, block(1, 1, 0), done(1), INSERT, block(1, 2, 0), block(1, 0, 0), block(5, 1, 1, WHOLE), block(6, 2, 0)]
        self.check(((), 60, 2), log, 2)

    def test_a_stream_waits_once(self):
        self.check(((), 60, 4), [INSERT] + [block(3, 1, 1, WHOLE)] * 9, 1)

    def test_drawn_logs_by_a_walk_through_all_orders(self):
        seen = [0, 0, 0, 0]
        for seed in range(300):
            chance = random.Random(seed)
            setting = logs.drawn_setting(chance)
            log = logs.drawn_log(chance, setting, chance.randint(2, 8), [1, 2, 3], logs.is_good)[:-1]
            most = SlowWorld(setting, log).widest()
            with self.subTest(seed=seed):
                self.check(setting, log, most)
            seen[most] += 1
        self.assertGreater(min(seen[:3]), 3, seen)


class NotGoodTest(unittest.TestCase):
    def test_logs_that_are_not_good(self):
        setting = ((), 12, 1)
        for log in [
            [table("limit", 13)], [INSERT, ("table", [])], [("block", 1, [])], [block(1, 1, 0)],
            [INSERT, block(1, 1, 0), block(2, 1, 0)], [INSERT, block(1, 1, 0, WHOLE), table("limit", 0)],
            [("table", []), done(1)],
        ]:
            before = copy.deepcopy(log)
            for function in (ledger, widest):
                with self.assertRaises(NoLog):
                    function(setting, log)
            self.assertEqual(log, before)

    def test_answers_that_cannot_take_place(self):
        for log, event in [([done(1)], 0), ([INSERT, received(2)], 1), ([INSERT, ("answer", []), ("table", [])], 1)]:
            for function in (ledger, widest):
                with self.assertRaises(NoAnswer) as caught:
                    function(((), 12, 1), log)
                self.assertEqual(caught.exception.event, event)


if __name__ == "__main__":
    unittest.main()
