"""Wires (point 18)."""

import copy
import random
import unittest

from fieldtable.errors import Held, NoField, NoNumber, NoSetting, NoStream, TooGreat
from fieldtable.senders import Sender
from fieldtable.wires import Wire
from tests import drawing
from tests.both_ends import BothEnds, outcome, shown, under_way
from tests.logs import block, cancelled, done, received, table
from tests.samples import ODD_THINGS

SETTING = ((("h", "x"),), 60, 1)
FIELD = ("a", "x")


class WireTest(unittest.TestCase):
    def refuse(self, wire, error, name, *arguments):
        """Check that a call raises this error, and that nothing has changed behind it."""
        before = shown(wire), under_way(wire)
        arguments_before = repr(arguments)
        with self.subTest(name=name, arguments=arguments), self.assertRaises(error) as caught:
            getattr(wire, name)(*arguments)
        self.assertIs(type(caught.exception), error)
        self.assertEqual((shown(wire), under_way(wire)), before)
        self.assertEqual(repr(arguments), arguments_before)

    def check(self, wire, lists=(), waiting=(), held=(), may_wait=(), log=()):
        self.assertEqual(shown(wire), (list(lists), waiting, held, may_wait, list(log)))

    def sent(self):
        """A wire on which an entry and a block that refers to it are under way."""
        wire = Wire(SETTING)
        wire.insert(FIELD)
        wire.block(2, (FIELD,))
        return wire


class CallsTest(WireTest):
    def test_a_new_wire(self):
        wire = Wire(SETTING)
        self.check(wire)
        self.assertEqual(under_way(wire), ([], ([], (), (), (), []), NoNumber, 0))

    def test_what_is_no_setting(self):
        for thing in ODD_THINGS + [((), 121, 0), ((), 0, 5), ((), 0, True), [(), 0, 0], ((), 0), ([], 0, 0)]:
            with self.assertRaises(NoSetting):
                Wire(thing)

    def test_each_call(self):
        wire = Wire(SETTING)
        said = [(2, (FIELD,))]
        self.assertIsNone(wire.insert(FIELD))
        self.assertIsNone(wire.block(2, (FIELD,)))
        # With each base that there is, this block is as short.
        self.assertIn(wire.log()[1], [block(2, 1, base, ("entry", 0)) for base in (0, 1)])
        log = [table("new", "a", "x"), wire.log()[1], table("again", 0), table("limit", 30)]
        self.assertIsNone(wire.again(0))
        self.assertIsNone(wire.limit(30))
        self.check(wire, (), (), (0,), (2,), log)
        self.assertIsNone(wire.carry_block(2))
        self.check(wire, (), (2,), (0,), (2,), log)
        self.assertIsNone(wire.carry_table(4))
        self.check(wire, said, (), (0,), (2,), log)
        self.assertIsNone(wire.carry_answers())
        log = log + [done(2)]
        self.check(wire, said, (), (), (), log)
        self.assertIsNone(wire.carry_table(2))
        self.assertIsNone(wire.tell(1))
        self.assertIsNone(wire.cancel(7))
        self.check(wire, said, (), (), (), log)
        self.assertIsNone(wire.carry_answers())
        self.check(wire, said, (), (), (), log + [received(1), cancelled(7)])
        self.assertIsNone(wire.carry_answers())
        self.check(wire, said, (), (), (), log + [received(1), cancelled(7)])
        self.assertEqual(wire.mark(), 0)
        self.assertIsNone(wire.back(0))

    def test_the_octets_are_those_of_a_sender(self):
        sender, wire = Sender(SETTING), Wire(SETTING)
        calls = [
            ("insert", ("h", "y")), ("insert", ("a", "")), ("again", 1), ("limit", 20), ("insert", ("a", "z")), ("limit", 60),
            ("block", 5, (("a", "z"), ("h", "x"))), ("block", 5, ()), ("block", 0, (("a", "q"),)),
        ]
        for name, *arguments in calls:
            octets = getattr(sender, name)(*arguments)
            getattr(wire, name)(*arguments)
            event = ("block", arguments[0], octets) if name == "block" else ("table", octets)
            self.assertEqual(wire.log()[-1], event)
        self.assertEqual(len(wire.log()), len(calls))

    def test_octets_of_the_table_arrive_in_pieces(self):
        for pieces in [[4, 2, 4], [1] * 10, [10], [0, 3, 0, 6, 1], [5, 5], [9, 1]]:
            wire = Wire(((), 60, 2))
            wire.insert(("a", "x"))
            wire.again(0)
            wire.insert(("a", "z"))
            wire.block(1, (("a", "z"), ("a", "x")))
            self.assertEqual(sum(len(event[1]) for event in wire.log()[:3]), 4 + 1 + 3)
            wire.insert(("c", ""))
            total = sum(len(event[1]) for event in wire.log() if event[0] == "table")
            wire.carry_block(1)
            arrived = 0
            for piece in pieces + [1] * (total - sum(pieces)):
                wire.carry_table(piece)
                arrived += piece
                self.assertEqual(wire.waiting(), () if arrived >= 8 else (1,))
                self.assertEqual(wire.lists(), [(1, (("a", "z"), ("a", "x")))] if arrived >= 8 else [])
            self.refuse(wire, NoNumber, "carry_table", 1)
            wire.carry_table(0)

    def test_carry_table_where_there_is_not_as_much(self):
        wire = Wire(SETTING)
        wire.carry_table(0)
        for n in [1, 2, -1, 10 ** 20, -10 ** 20]:
            self.refuse(wire, NoNumber, "carry_table", n)
        wire.insert(FIELD)
        for n in [5, -1, 10 ** 20, -10 ** 20, None, "1", [], True, False, 1.0]:
            self.refuse(wire, NoNumber, "carry_table", n)
        wire.carry_table(3)
        self.refuse(wire, NoNumber, "carry_table", 2)
        wire.carry_table(1)
        self.refuse(wire, NoNumber, "carry_table", 1)

    def test_carry_block_where_there_is_none(self):
        wire = self.sent()
        for stream in [0, 1, 3, 20, 21, -1, 10 ** 20, None, "2", [], (2,), 2.0, True]:
            self.refuse(wire, NoStream, "carry_block", stream)
        wire.carry_block(2)
        self.refuse(wire, NoStream, "carry_block", 2)
        wire.block(1, ())
        self.refuse(wire, NoStream, "carry_block", True)
        wire.carry_block(1)

    def test_blocks_of_a_stream_arrive_in_their_order(self):
        wire = Wire(SETTING)
        for number, stream in enumerate([3, 4, 3, 3, 4]):
            wire.block(stream, (("n", str(number)),))
        for stream in [3, 4, 4, 3, 3]:
            wire.carry_block(stream)
        self.assertEqual([(stream, fields[0][1]) for stream, fields in wire.lists()], [(3, "0"), (4, "1"), (4, "4"), (3, "2"), (3, "3")])

    def test_all_answers_arrive_each_as_an_event(self):
        wire = Wire(((), 120, 4))
        for stream in range(4):
            wire.insert(FIELD)
        for stream in [3, 1, 0]:
            wire.block(stream, (FIELD, FIELD))
        for stream in [0, 3, 1]:
            wire.carry_block(stream)
        wire.carry_table(4 + 3)
        wire.cancel(20)
        wire.cancel(19)
        before = wire.log()
        wire.carry_answers()
        self.assertEqual(wire.log()[:len(before)], before)
        more = wire.log()[len(before):]
        self.assertEqual(more, [done(0), done(1), done(3), cancelled(20), cancelled(19)])

    def test_a_long_answer_is_one_event(self):
        wire = Wire(((), 120, 4))
        for _ in range(100):
            wire.insert(FIELD)
            wire.carry_table(len(wire.log()[-1][1]))
        wire.tell(99)
        wire.tell(1)
        wire.carry_answers()
        self.assertEqual(wire.log()[100:], [received(99), received(1)])
        self.assertEqual(len(received(99)[1]), 2)

    def test_a_stream_that_is_cancelled(self):
        wire = self.sent()
        wire.block(2, (FIELD, FIELD))
        wire.carry_block(2)
        wire.cancel(2)
        self.assertEqual((wire.waiting(), wire.held(), wire.may_wait()), ((), (0,), (2,)))
        wire.carry_block(2)
        self.assertEqual((wire.waiting(), wire.lists()), ((), []))
        wire.carry_answers()
        self.assertEqual((wire.held(), wire.may_wait()), ((), ()))
        wire.block(2, (FIELD,))
        self.assertEqual(wire.log()[-2:], [cancelled(2), block(2, 0, 0, ("out", "a", "x"))])
        wire.carry_table(4)
        wire.carry_block(2)
        self.assertEqual((wire.lists(), wire.waiting()), ([], ()))

    def test_errors_of_the_sender(self):
        wire = self.sent()
        for field in ODD_THINGS + [("", "x"), ("A", ""), ["a", "x"], ("a", "x" * 41)]:
            self.refuse(wire, NoField, "insert", field)
            self.refuse(wire, NoField, "block", 2, field if field != () else [])
        for number in [-1, 1, 9, 10 ** 20, None, "0", False, 0.0, []]:
            self.refuse(wire, NoNumber, "again", number)
        for n in [-1, -10 ** 20, None, "1", True, 1.0, []]:
            self.refuse(wire, NoNumber, "limit", n)
        for n in [61, 9999, 10 ** 20]:
            self.refuse(wire, TooGreat, "limit", n)
        self.refuse(wire, TooGreat, "insert", ("a" * 20, "x" * 37))
        for stream in [-1, 21, None, "2", True, 2.0, []]:
            self.refuse(wire, NoStream, "block", stream, (FIELD,))
            self.refuse(wire, NoStream, "block", stream, None)
        self.refuse(wire, Held, "limit", 5)
        self.refuse(wire, Held, "insert", ("b" * 20, "x" * 31))
        wire.insert(("b" * 20, "x" * 30))

    def test_errors_of_the_receiver(self):
        wire = self.sent()
        for n in [0, 1, -1, 10 ** 20, None, "1", True, 1.0, []]:
            self.refuse(wire, NoNumber, "tell", n)
        wire.carry_table(4)
        for n in [0, 2, -1, True]:
            self.refuse(wire, NoNumber, "tell", n)
        wire.tell(1)
        self.refuse(wire, NoNumber, "tell", 1)
        for stream in [-1, 21, None, "2", True, 2.0, []]:
            self.refuse(wire, NoStream, "cancel", stream)
        wire.cancel(2)
        self.refuse(wire, NoStream, "cancel", 2)

    def test_lists_that_are_returned_belong_to_the_caller(self):
        wire = self.sent()
        wire.insert(FIELD)
        wire.insert(FIELD)
        wire.carry_block(2)
        wire.carry_table(4)
        wire.carry_answers()
        before = shown(wire), under_way(wire)
        log = wire.log()
        octets = [event[-1] for event in log] + [event[-1] for event in wire.log()]
        self.assertEqual(len({id(each) for each in octets}), len(octets))
        for event in log:
            event[-1].append(7)
            event[-1][0] = 9
        log.append(None)
        wire.lists().append(None)
        self.assertEqual((shown(wire), under_way(wire)), before)

    def test_two_wires_share_nothing(self):
        first, second = self.sent(), Wire(SETTING)
        first.mark()
        first.carry_block(2)
        first.cancel(3)
        self.check(second)
        self.refuse(second, NoNumber, "back", 0)
        second.cancel(3)


class MarksTest(WireTest):
    def test_back_to_a_mark(self):
        wire = self.sent()
        wire.carry_table(2)
        before = shown(wire), under_way(wire)
        self.assertEqual(wire.mark(), 0)
        before = before[0], before[1][:-1] + (1,)
        for _ in range(3):
            wire.carry_block(2)
            wire.carry_table(2)
            wire.cancel(9)
            wire.carry_answers()
            wire.insert(("b", "y"))
            wire.block(3, (("b", "y"),))
            wire.limit(40)
            self.assertNotEqual(shown(wire), before[0])
            wire.back(0)
            self.assertEqual((shown(wire), under_way(wire)), before)

    def test_the_mark_itself_stands_and_greater_ones_are_gone(self):
        wire = Wire(SETTING)
        for number in range(4):
            self.assertEqual(wire.mark(), number)
            wire.insert(("a", str(number)))
        wire.back(1)
        self.assertEqual(len(wire.log()), 1)
        for number in (2, 3, 4):
            self.refuse(wire, NoNumber, "back", number)
        wire.insert(FIELD)
        self.assertEqual(wire.mark(), 2)
        wire.back(1)
        wire.back(1)
        self.assertEqual(len(wire.log()), 1)
        wire.back(0)
        self.assertEqual(wire.log(), [])
        self.refuse(wire, NoNumber, "back", 1)
        self.assertEqual(wire.mark(), 1)

    def test_marks_that_there_are_not(self):
        wire = Wire(SETTING)
        for number in [0, 1, -1, 10 ** 20, -10 ** 20, None, "0", [], False, 0.0]:
            self.refuse(wire, NoNumber, "back", number)
        wire.mark()
        for number in [1, -1, 10 ** 20, None, "0", [], False, True, 0.0]:
            self.refuse(wire, NoNumber, "back", number)
        wire.back(0)

    def test_answers_that_were_made_but_did_not_arrive(self):
        wire = self.sent()
        wire.carry_block(2)
        wire.carry_table(4)
        wire.mark()
        wire.carry_answers()
        self.assertEqual(wire.held(), ())
        wire.back(0)
        self.assertEqual(wire.held(), (0,))
        wire.carry_answers()
        self.assertEqual((wire.held(), wire.log()[-1]), ((), done(2)))

    def test_insertions_that_were_told_stay_told(self):
        wire = self.sent()
        wire.insert(FIELD)
        wire.carry_table(5)
        wire.tell(1)
        wire.mark()
        wire.tell(1)
        for _ in range(2):
            self.refuse(wire, NoNumber, "tell", 1)
            wire.back(0)
            wire.tell(1)
        wire.carry_answers()
        self.assertEqual(wire.log()[-2:], [received(1), received(1)])

    def test_what_a_caller_was_given_does_not_go_back(self):
        wire = self.sent()
        wire.mark()
        wire.carry_table(4)
        wire.carry_block(2)
        lists, log = wire.lists(), wire.log()
        wire.back(0)
        self.assertEqual((len(lists), len(log)), (1, 2))


class DrawnCallsTest(unittest.TestCase):
    def call(self, chance, wire):
        """A call that can mostly be done."""
        name = chance.choice([
            "insert", "insert", "again", "limit", "block", "block", "block", "carry_table", "carry_table", "carry_table",
            "carry_block", "carry_block", "carry_block", "carry_answers", "tell", "cancel", "mark", "back",
        ])
        stream = chance.choice([0, 3, 20])
        arguments = {
            "insert": [drawing.field(chance)], "again": [chance.randint(0, 6)], "block": [stream, drawing.fields(chance, 3)],
            "limit": [chance.choice([0, 10, 20, 30, 60, 61])], "carry_table": [chance.randint(0, 5)], "carry_block": [stream],
            "carry_answers": [], "tell": [chance.randint(1, 2)], "mark": [], "back": [chance.randint(0, 9)],
            "cancel": [stream if chance.random() < 0.2 else 7],
        }
        if name == "back" and chance.random() < 0.6:
            return self.call(chance, wire)
        return name, arguments[name]

    def test_drawn_calls_beside_a_sender_and_a_receiver(self):
        seen = {}
        for seed in range(150):
            chance = random.Random(seed)
            setting = drawing.setting(chance)
            wire, ends = Wire(setting), BothEnds(setting)
            for _ in range(chance.randint(20, 90)):
                name, arguments = self.call(chance, wire)
                before = shown(wire)
                result = outcome(ends, name, *copy.deepcopy(arguments))
                with self.subTest(seed=seed, name=name, arguments=arguments):
                    self.assertEqual(outcome(wire, name, *arguments), result)
                    self.assertEqual(shown(wire), shown(ends))
                    if isinstance(result, type):
                        self.assertEqual(shown(wire), before)
                seen[name, result if isinstance(result, type) else None] = True
            self.assertEqual(under_way(wire), under_way(ends))
        for name in ["again", "limit", "carry_table", "back"]:
            self.assertTrue(seen[name, None] and (seen.get((name, NoNumber)) or seen.get((name, TooGreat))))
        for name, error in [("insert", Held), ("insert", TooGreat), ("carry_block", NoStream), ("tell", NoNumber), ("cancel", NoStream)]:
            self.assertTrue(seen[name, None] and seen[name, error])


if __name__ == "__main__":
    unittest.main()
