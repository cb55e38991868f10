"""The states of good logs: all_states and are_states (point 17)."""

import copy
import random
import unittest

from fieldtable.errors import NoLog, NoSetting, TooManyStates
from fieldtable.states import all_states, are_states
from tests import logs
from tests.logs import block, cancelled, done, received, table
from tests.samples import ODD_THINGS
from tests.slow_world import SlowWorld

SETTING = ((("h", "x"),), 60, 2)
INSERT = table("new", "a", "x")
WHOLE = ("entry", 0)
# By the numbers of blocks on each stream one gets just as many states as are listed, and one more.
MOST = [block(0, 0, 0)] * 5 + [block(2, 0, 0)] * 10 + [block(0, 0, 0)] * 9
MORE = [block(1, 0, 0)] + [block(2, 0, 0)] * 19 + [block(0, 0, 0)] * 6


class AllStatesTest(unittest.TestCase):
    def check(self, log, states, setting=SETTING):
        before = copy.deepcopy(log)
        self.assertEqual(all_states(setting, log), states)
        self.assertEqual(SlowWorld(setting, log).states(), states)
        self.assertIs(are_states(setting, log, states), True)
        self.assertEqual(log, before)

    def test_the_empty_log(self):
        self.check([], [(0, 0, (), 0, ())])

    def test_one_event(self):
        self.check([INSERT], [(0, 0, (), 0, ()), (1, 0, (), 0, ()), (1, 1, (), 0, ())])
        self.check([block(7, 0, 0)], [(0, 0, ((7, 0),), 0, ()), (1, 0, ((7, 0),), 0, ()), (1, 0, ((7, 1),), 0, ())])
        self.check([cancelled(20)], [(0, 0, (), 0, ()), (0, 0, (), 0, (20,)), (1, 0, (), 0, (20,))])

    def test_a_block_that_waits_is_told_when_it_is_read(self):
        self.check([INSERT, block(3, 1, 0, WHOLE)], [
            (0, 0, ((3, 0),), 0, ()), (1, 0, ((3, 0),), 0, ()), (1, 1, ((3, 0),), 0, ()), (2, 0, ((3, 0),), 0, ()),
            (2, 0, ((3, 1),), 0, ()), (2, 1, ((3, 0),), 0, ()), (2, 1, ((3, 1),), 1, ()),
        ])

    def test_answers_are_made_in_the_order_of_the_log(self):
        self.check([INSERT, received(1), cancelled(9)], [
            (0, 0, (), 0, ()), (1, 0, (), 0, ()), (1, 1, (), 0, ()), (1, 1, (), 1, ()), (1, 1, (), 1, (9,)),
            (2, 1, (), 1, ()), (2, 1, (), 1, (9,)), (3, 1, (), 1, (9,)),
        ])

    def test_a_block_cannot_be_read_ahead_of_an_answer_that_stands_first(self):
        log = [INSERT, block(3, 1, 0), received(1), done(3)]
        states = all_states(SETTING, log)
        self.check(log, states)
        self.assertNotIn((2, 1, ((3, 1),), 1, ()), [state for state in states if state[0] < 2])
        # Where the block has arrived, its answer was made, so the other one was made ahead of it.
        self.assertIn((2, 1, ((3, 1),), 1, ()), states)
        log = [INSERT, INSERT, block(3, 1, 0), block(4, 1, 0), done(4), received(1), done(3)]
        states = all_states(SETTING, log)
        self.check(log, states)
        self.assertFalse([state for state in states if state[2] == ((3, 1), (4, 0)) and state[1] > 0])
        self.assertIn((4, 2, ((3, 1), (4, 1)), 2, ()), states)

    def test_two_streams_that_wait_are_read_at_once(self):
        log = [INSERT, block(3, 1, 0), block(4, 1, 0), done(4), done(3)]
        states = all_states(SETTING, log)
        self.check(log, states)
        # If both waited, the answer of the stream 3 would be made first.
        self.assertIn((3, 0, ((3, 1), (4, 1)), 0, ()), states)
        self.assertIn((3, 0, ((3, 1), (4, 0)), 0, ()), states)
        self.assertNotIn((3, 1, ((3, 1), (4, 0)), 1, ()), states)
        log = [INSERT, block(3, 1, 0), block(4, 1, 0), done(3), done(4)]
        self.check(log, all_states(SETTING, log))
        self.assertIn((5, 1, ((3, 1), (4, 1)), 1, ()), all_states(SETTING, log))

    def test_streams_that_are_cancelled(self):
        log = [INSERT, block(3, 1, 0, WHOLE), cancelled(3), ("block", 3, [255]), block(2, 0, 0), cancelled(20)]
        states = all_states(SETTING, log)
        self.check(log, states)
        self.assertIn((2, 0, ((2, 0), (3, 1)), 0, (3, 20)), states)
        self.assertIn((6, 1, ((2, 1), (3, 2)), 0, (3, 20)), states)
        self.assertFalse([state for state in states if state[4] == (20,)])
        # No block of the stream 3 can be read ahead of the answer, so none is told.
        self.assertFalse([state for state in states if state[3]])

    def test_answers_behind_the_last_one_of_the_log(self):
        log = [INSERT, INSERT, received(1), block(1, 2, 0), block(2, 1, 0)]
        states = all_states(SETTING, log)
        self.check(log, states)
        self.assertEqual({state[3] for state in states}, {0, 1, 2})
        self.assertEqual({state[4] for state in states}, {()})

    def test_the_states_ascend(self):
        log = [block(20, 0, 0), cancelled(9), cancelled(10), block(1, 0, 0), block(11, 0, 0)]
        states = all_states(SETTING, log)
        self.check(log, states)
        self.assertEqual(states, sorted(set(states)))
        self.assertEqual({tuple(stream for stream, _ in state[2]) for state in states}, {(1, 11, 20)})
        self.assertEqual({state[4] for state in states}, {(), (9,), (9, 10)})

    def test_drawn_logs_by_a_walk_through_all_orders(self):
        most = {"told": 0, "cancelled": 0, "blocks": 0}
        for seed in range(400):
            chance = random.Random(seed)
            setting = logs.drawn_setting(chance)
            log = logs.drawn_log(chance, setting, chance.randint(2, 11), [1, 2, 3], logs.is_good)[:-1]
            with self.subTest(seed=seed):
                self.check(log, all_states(setting, log), setting)
            last = all_states(setting, log)[-1]
            most["told"] += last[3]
            most["cancelled"] += len(last[4])
            most["blocks"] += sum(many for _, many in last[2])
        self.assertGreater(min(most.values()), 100, most)

    def test_as_many_states_as_are_listed_and_one_more(self):
        for waiting in (0, 4):
            setting = ((), 0, waiting)
            states = all_states(setting, MOST)
            self.assertEqual(len(states), 1500)
            self.assertEqual(states, SlowWorld(setting, MOST).states())
            self.assertIs(are_states(setting, MOST, states), True)
            self.assertIs(are_states(setting, MOST, states[1:]), False)
            self.assertEqual(len(SlowWorld(setting, MORE).states()), 1501)
            for log in (MORE, MOST + [block(0, 0, 0)], [block(stream % 21, 0, 0) for stream in range(40)]):
                with self.assertRaises(TooManyStates):
                    all_states(setting, log)
                with self.assertRaises(TooManyStates):
                    are_states(setting, log, states)

    def test_a_log_that_is_not_good_is_named_ahead_of_too_many_states(self):
        for last in [("table", []), block(1, 1, 0), ("block", 0, [])]:
            for function, more in [(all_states, []), (are_states, [[]]), (are_states, [None])]:
                with self.assertRaises(NoLog):
                    function(SETTING, MORE + [last], *more)

    def test_the_answer_is_new(self):
        first = all_states(SETTING, [INSERT])
        del first[1:]
        self.assertEqual(len(all_states(SETTING, [INSERT])), 3)


class AreStatesTest(unittest.TestCase):
    LOG = [INSERT, block(3, 1, 0, WHOLE), cancelled(3), block(1, 0, 0)]

    def setUp(self):
        self.states = all_states(SETTING, self.LOG)

    def check(self, answer, *things):
        for thing in things:
            before = repr(thing)
            with self.subTest(thing=thing):
                self.assertIs(are_states(SETTING, self.LOG, thing), answer)
                self.assertEqual(repr(thing), before)

    def test_lists_of_all_states(self):
        states = self.states
        self.check(True, states, states[::-1], states * 2, states[5:] + states[:5] + states[2:3])

    def test_more_tuples_of_this_form(self):
        for more in [
            (9999, 9999, ((1, 9999), (3, 9999)), 9999, tuple(range(21))), (0, 0, ((1, 0), (3, 5)), 7, (3, 20)),
            (7, 0, ((1, 0), (3, 0)), 0, (20, 3)), (0, 0, ((1, 0), (3, 0)), 0, (3, 3)), (4, 1, ((1, 1), (3, 1)), 1, (0,)),
        ]:
            self.assertNotIn(more, self.states)
            self.check(True, self.states + [more], [more] + self.states[::-1])

    def test_a_state_left_out(self):
        for at in range(len(self.states)):
            self.check(False, self.states[:at] + self.states[at + 1:])
        self.check(False, [], self.states[:1])

    def test_a_part_of_another_kind(self):
        def form(events=0, instructions=0, blocks=((1, 0), (3, 0)), told=0, cancelled=()):
            return (events, instructions, blocks, told, cancelled)

        self.check(True, self.states + [form()])
        bad = [thing for thing in ODD_THINGS + [-1, 10000, "0", [0]] if thing != 0 or thing is False or isinstance(thing, float)]
        for thing in bad:
            if not (type(thing) is int and 0 <= thing <= 9999):
                self.check(False, self.states + [form(events=thing)], self.states + [form(instructions=thing)])
                self.check(False, self.states + [form(told=thing)], self.states + [form(blocks=((1, thing), (3, 0)))])
            if thing not in ((), (0,)):
                self.check(False, self.states + [form(cancelled=thing)])
            self.check(False, self.states + [form(blocks=thing)])

    def test_blocks_of_other_streams(self):
        for blocks in [
            (), ((1, 0),), ((3, 0),), ((3, 0), (1, 0)), ((1, 0), (2, 0)), ((0, 0), (3, 0)), ((1, 0), (3, 0), (5, 0)),
            ((1, 0), (1, 0)), ((1, 0), (3, 0), (3, 0)), [(1, 0), (3, 0)], ([1, 0], (3, 0)), ((1,), (3, 0)), ((True, 0), (3, 0)),
            ((1.0, 0), (3, 0)), (("1", 0), (3, 0)), ((1, 0, 0), (3, 0)), (1, 3), ((1, 0), None), ("10", (3, 0)), ((1, True), (3, 0)),
            ((1, -1), (3, 0)), ((1, 10000), (3, 0)), ((1, 0), (3, 10000)), ((1, 0), (3, False)), ((1, 0), (3.0, 0)),
        ]:
            self.check(False, self.states + [(0, 0, blocks, 0, ())], [(0, 0, blocks, 0, ())] + self.states)

    def test_streams_that_are_none(self):
        for cancelled_streams in [(21,), (-1,), (True,), (1, False), (3.0,), ("3",), (None,), ((3,),), [3], [], 3, {3}, {}, (3, 21)]:
            self.check(False, self.states + [(0, 0, ((1, 0), (3, 0)), 0, cancelled_streams)])

    def test_booleans_are_no_integers_in_a_state_either(self):
        self.assertIn((1, 1, ((1, 0), (3, 0)), 0, (3,)), self.states)
        for wrong in [
            (True, 1, ((1, 0), (3, 0)), 0, (3,)), (1, True, ((1, 0), (3, 0)), 0, (3,)), (1, 1, ((True, 0), (3, 0)), 0, (3,)),
            (1, 1, ((1, False), (3, 0)), 0, (3,)), (1, 1, ((1, 0), (3, 0)), False, (3,)), (1, 1.0, ((1, 0), (3, 0)), 0, (3,)),
        ]:
            at = self.states.index((1, 1, ((1, 0), (3, 0)), 0, (3,)))
            self.check(False, self.states[:at] + [wrong] + self.states[at + 1:], self.states + [wrong])

    def test_tuples_of_another_length(self):
        for state in [(), (0,), (0, 0, ((1, 0), (3, 0)), 0), (0, 0, ((1, 0), (3, 0)), 0, (), ()), self.states, list(self.states[0])]:
            self.check(False, self.states + [state])

    def test_other_values(self):
        self.check(False, *ODD_THINGS, tuple(self.states), {0: self.states}, set(self.states), [self.states])
        self.check(False, *[self.states + [thing] for thing in ODD_THINGS])
        self.check(False, dict.fromkeys(self.states, True))

    def test_a_log_without_blocks(self):
        states = [(0, 0, (), 0, ())]
        self.assertIs(are_states(SETTING, [], states), True)
        self.assertIs(are_states(SETTING, [], states + [(5, 6, (), 7, (8, 9))]), True)
        self.assertIs(are_states(SETTING, [], states + [(0, 0, ((0, 0),), 0, ())]), False)
        with self.assertRaises(NoSetting):
            are_states(None, None, None)


if __name__ == "__main__":
    unittest.main()
