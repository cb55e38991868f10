"""What holds of the whole (point 19): wires that are used anyhow, and the judge of their logs."""

import collections
import copy
import random
import unittest

from fieldtable.blocks import read_block
from fieldtable.errors import Held, TooGreat
from fieldtable.instructions import read_instruction, write_answer, write_instruction
from fieldtable.judging import judge, ledger, repair, widest
from fieldtable.orders import fails, run_order
from fieldtable.senders import Sender
from fieldtable.shortest import are_lengths, shortest
from fieldtable.tables import run_table, says
from fieldtable.wires import Wire
from tests import drawing, logs
from tests.both_ends import outcome
from tests.slow_world import SlowWorld, drawn_order

STREAMS = [0, 3, 20]


class Life:
    """A wire that is used anyhow, and a sender with the same calls and answers."""

    def __init__(self, test, chance):
        self.test = test
        self.chance = chance
        self.setting = logs.drawn_setting(chance)
        self.wire = Wire(self.setting)
        self.sender = Sender(self.setting)
        self.heard = 0
        self.written = {stream: [] for stream in STREAMS}
        self.cancelled = []

    def log(self):
        return self.wire.log()

    def send(self, name, *arguments):
        """Let the sender of the wire and the other one do the same."""
        octets = outcome(self.sender, name, *arguments)
        result = outcome(self.wire, name, *arguments)
        if result is None:
            self.test.assertEqual(self.log()[-1][-1], octets)
        else:
            self.test.assertIs(octets, result)
        return result

    def step(self):
        chance = self.chance
        name = chance.choice(["insert"] * 4 + ["again", "limit"] + ["block"] * 5 + ["table"] * 5 + ["carry"] * 5 + ["answers", "tell", "cancel"])
        stream = chance.choice(STREAMS)
        if name == "insert":
            self.send(name, drawing.field(chance))
        elif name == "again":
            self.send(name, chance.randint(0, 5))
        elif name == "limit":
            self.send(name, chance.choice([0, 5, self.setting[1], self.setting[1], self.setting[1]]))
        elif name == "block":
            fields = self.fields()
            self.send(name, stream, fields)
            self.written[stream].append(fields)
        elif name == "table":
            outcome(self.wire, "carry_table", chance.randint(1, 5))
        elif name == "carry":
            outcome(self.wire, "carry_block", stream)
        elif name == "answers":
            self.answers()
        elif name == "tell":
            outcome(self.wire, name, 1)
        elif chance.random() < 0.1 and outcome(self.wire, name, stream) is None:
            self.cancelled.append(stream)

    def fields(self):
        there = list(self.sender.entries().values()) * 2 + list(self.setting[0]) + [drawing.field(self.chance)]
        return tuple(self.chance.choice(there) for _ in range(self.chance.randint(0, 3)))

    def answers(self):
        before = len(self.log())
        self.wire.carry_answers()
        for kind, octets in self.log()[before:]:
            self.test.assertEqual(kind, "answer")
            self.sender.answer(octets)

    def check_read(self):
        for stream in STREAMS:
            read = [fields for other, fields in self.wire.lists() if other == stream]
            self.test.assertEqual(read, self.written[stream][:len(read)])

    def finish(self):
        """Let all arrive; then each list was read, if its stream was not cancelled."""
        while outcome(self.wire, "carry_table", 1) is None:
            pass
        for stream in STREAMS:
            while outcome(self.wire, "carry_block", stream) is None:
                pass
        self.check_read()
        self.test.assertEqual(self.wire.waiting(), ())
        for stream in STREAMS:
            if stream not in self.cancelled:
                self.test.assertEqual(len([None for other, _ in self.wire.lists() if other == stream]), len(self.written[stream]))
        self.answers()
        self.test.assertEqual((self.wire.held(), self.wire.may_wait()), ((), ()))

    def instructions(self, name, argument):
        """The instructions that do what a call does."""
        if name == "limit":
            return [("limit", argument)]
        count = self.sender.count()
        if name == "again":
            return [("again", count - 1 - argument)]
        found = [("new",) + argument]
        for number, field in self.sender.entries().items():
            if field[0] == argument[0]:
                found.append(("entry", count - 1 - number, argument[1]))
        return found


class WholeTest(unittest.TestCase):
    def setUp(self):
        self.seen = collections.Counter()

    def live(self, seeds, steps, check):
        """Look at many wires that were used anyhow."""
        for seed in range(seeds):
            life = Life(self, random.Random(seed))
            with self.subTest(seed=seed):
                for _ in range(life.chance.randint(*steps)):
                    life.step()
                check(life)

    def test_the_log_of_a_wire_is_good(self):
        self.live(200, (5, 70), self.check_log)
        self.assertGreater(self.seen["events"], 2000)

    def check_log(self, life):
        life.check_read()
        log = life.log()[:40]
        self.seen["events"] += len(log)
        for length in range(len(log) + 1):
            self.assertEqual(judge(life.setting, log[:length]), ("good",))
        rows = ledger(life.setting, log)
        if log == life.log() and log:
            sender = life.sender
            self.assertEqual(rows[-1], (sender.count(), sender.known(), sender.held(), sender.may_wait()))
            self.assertEqual(rows[-1][2:], (life.wire.held(), life.wire.may_wait()))
        instructions = [read_instruction(octets) for kind, *_, octets in life.log() if kind == "table"]
        self.assertEqual(run_table(life.setting, instructions), (life.sender.count(), life.sender.entries()))
        life.finish()

    def test_no_order_fails_for_the_log_of_a_wire(self):
        self.live(120, (10, 60), self.check_orders)
        self.assertGreater(self.seen["lists"], 300)

    def check_orders(self, life):
        log = life.log()[:40]
        world = SlowWorld(life.setting, log)
        most, _ = widest(life.setting, log)
        for _ in range(3):
            order, _ = drawn_order(life.chance, world, 90)
            if isinstance(world.run(order), str):
                continue
            self.assertIs(fails(life.setting, log, order), False)
            lists, waiting, _ = run_order(life.setting, log, order)
            self.assertLessEqual(len(waiting), most)
            for stream in STREAMS:
                read = [fields for other, fields in lists if other == stream]
                self.assertEqual(read, life.written[stream][:len(read)])
            self.seen["lists"] += len(lists)

    def test_held_is_raised_just_where_the_log_would_be_bad(self):
        self.live(150, (5, 40), self.check_calls)
        self.assertGreater(min(self.seen[key] for key in (Held, TooGreat, None)), 50, self.seen)

    def check_calls(self, life):
        if len(life.log()) > 39:
            return
        calls = [("insert", drawing.field(life.chance)) for _ in range(3)]
        calls += [("limit", n) for n in (0, 5, 6, 12, life.setting[1] + 1)]
        calls += [("again", number) for number in life.sender.entries()]
        for name, argument in calls:
            error = outcome(copy.deepcopy(life.wire), name, argument)
            self.seen[error] += 1
            for instruction in life.instructions(name, argument):
                self.check_event(life, ("table", write_instruction(instruction)), error, name, argument)

    def check_event(self, life, event, error, name, argument):
        log = life.log()
        verdict = judge(life.setting, log + [event])
        if error is None:
            self.assertEqual(verdict, ("good",))
            return
        self.assertEqual(verdict[:2], ("bad", len(log)))
        self.assertIs(fails(life.setting, log + [event], verdict[2]), True)
        if error is TooGreat:
            self.assertIsNone(repair(life.setting, log + [event]))
            return
        number, answers = repair(life.setting, log + [event])
        self.assertEqual(number, len(log))
        sender = copy.deepcopy(life.sender)
        for answer in answers:
            with self.assertRaises(Held):
                getattr(sender, name)(argument)
            sender.answer(write_answer(answer))
        getattr(sender, name)(argument)

    def test_blocks_are_as_short_as_can_be_sent(self):
        self.live(150, (5, 40), self.check_blocks)
        self.assertGreater(self.seen["longer"], 5)

    def check_blocks(self, life):
        if len(life.log()) > 39:
            return
        for stream in STREAMS:
            self.check_block(life, stream, life.fields())

    def check_block(self, life, stream, fields):
        log, entries = life.log(), life.sender.entries()
        length, octets, lengths = shortest(life.setting, entries, fields)
        self.assertIs(are_lengths(life.setting, entries, fields, lengths), True)
        self.assertEqual(says(life.setting, entries, read_block(octets)), fields)
        self.assertEqual(min(lengths.values()), length)
        sent = copy.deepcopy(life.sender).block(stream, fields)
        self.assertEqual(judge(life.setting, log + [("block", stream, sent)]), ("good",))
        if len(sent) == length:
            return
        # What is shorter cannot be sent, or is ignored on a stream that was cancelled.
        event = ("block", stream, octets)
        if judge(life.setting, log + [event]) == ("good",):
            self.assertEqual(read_block(sent)[0], 0)
            return
        self.seen["longer"] += 1
        number, answers = repair(life.setting, log + [event])
        self.assertEqual((number, len(answers), answers[0][0]), (len(log), 1, "received"))
        sender = copy.deepcopy(life.sender)
        sender.answer(write_answer(answers[0]))
        self.assertEqual(len(sender.block(stream, fields)), length)


if __name__ == "__main__":
    unittest.main()
