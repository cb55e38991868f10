"""A sender and a receiver together (point 19, as far as it speaks of them)."""

import copy
import random
import unittest

from fieldtable.blocks import read_block
from fieldtable.errors import Held, NoNumber, TooGreat
from fieldtable.instructions import read_instruction, write_answer
from fieldtable.receivers import Receiver
from fieldtable.senders import Sender
from fieldtable.shortest import are_lengths, shortest
from fieldtable.tables import run_table, says
from tests import drawing
from tests.both_ends import outcome
from tests.slow_sender import SlowSender, sender_state

STREAMS = [0, 1, 2, 3, 7, 20]


class Ends:
    """Both ends, and what is under way between them."""

    def __init__(self, test, chance):
        self.test = test
        self.chance = chance
        fixed, room, waiting = drawing.setting(chance)
        self.setting = (fixed, room, waiting)
        self.sender = Sender(self.setting)
        self.receiver = Receiver(self.setting)
        self.instructions = []
        self.ends = []
        self.octets = []
        self.arrived = 0
        self.blocks = {stream: [] for stream in STREAMS}
        self.written = {stream: [] for stream in STREAMS}
        self.cancelled = {}
        self.answers = []
        self.errors = 0

    def send(self, name, argument):
        try:
            octets = getattr(self.sender, name)(argument)
        except (Held, TooGreat):
            self.errors += 1
            return
        self.octets.extend(octets)
        self.instructions.append(read_instruction(octets))
        self.ends.append(len(self.octets))

    def send_any(self):
        entries = self.sender.entries()
        kind = self.chance.choice(["insert"] * 6 + ["again", "limit"])
        if kind == "limit":
            room = self.setting[1]
            self.send(kind, self.chance.choice([0, room // 2, room, room, room]))
        elif kind == "again" and entries:
            self.send(kind, self.chance.choice(list(entries)))
        else:
            self.send("insert", drawing.field(self.chance))

    def send_block(self):
        stream = self.chance.choice(STREAMS)
        there = list(self.sender.entries().values()) * 2 + list(self.setting[0]) + [drawing.field(self.chance)]
        fields = tuple(self.chance.choice(there) for _ in range(self.chance.randint(0, 4)))
        octets = self.sender.block(stream, fields)
        self.blocks[stream].append(octets)
        self.written[stream].append(fields)

    def carry_table(self, most):
        piece = self.octets[self.arrived:self.arrived + most]
        self.receiver.take(piece)
        self.arrived += len(piece)
        arrived = sum(end <= self.arrived for end in self.ends)
        count, entries = run_table(self.setting, self.instructions[:arrived])
        self.test.assertEqual((self.receiver.count(), self.receiver.entries()), (count, entries))

    def carry_block(self):
        streams = [stream for stream in STREAMS if self.blocks[stream]]
        if streams:
            stream = self.chance.choice(streams)
            self.receiver.block(stream, self.blocks[stream].pop(0))

    def carry_answers(self, most):
        octets = self.receiver.answers()
        while octets:
            length = next(n for n in range(1, 4) if self.is_answer(octets[:n]))
            self.answers.append(octets[:length])
            octets = octets[length:]
        sent, self.answers = self.answers[:most], self.answers[most:]
        self.sender.answer([octet for answer in sent for octet in answer])

    def is_answer(self, octets):
        return any(octets == write_answer(answer) for answer in [
            *[("done", stream) for stream in range(21)], *[("cancelled", stream) for stream in range(21)],
            *[("received", n) for n in range(1, 200)],
        ])

    def tell(self, n):
        try:
            self.receiver.tell(n)
        except NoNumber:
            pass

    def cancel(self):
        stream = self.chance.choice(STREAMS)
        if stream not in self.cancelled:
            self.receiver.cancel(stream)
            self.cancelled[stream] = len([None for other, _ in self.receiver.lists() if other == stream])

    def step(self):
        action = self.chance.choice(["send"] * 4 + ["block"] * 4 + ["table"] * 4 + ["carry"] * 4 + ["answers"] * 2 + ["tell", "cancel"])
        if action == "send":
            self.send_any()
        elif action == "block":
            self.send_block()
        elif action == "table":
            self.carry_table(self.chance.choice([0, 1, 1, 2, 3, 5, 20]))
        elif action == "carry":
            self.carry_block()
        elif action == "answers":
            self.carry_answers(self.chance.choice([1, 2, 100]))
        elif action == "tell":
            self.tell(self.chance.randint(1, 3))
        elif self.chance.random() < 0.2:
            self.cancel()
        self.check()

    def check(self):
        test = self.test
        test.assertLessEqual(len(self.receiver.waiting()), self.setting[2])
        test.assertLessEqual(len(self.sender.may_wait()), self.setting[2])
        for stream in STREAMS:
            read = [fields for other, fields in self.receiver.lists() if other == stream]
            test.assertEqual(read, self.written[stream][:len(read)])
            if stream in self.cancelled:
                test.assertEqual(len(read), self.cancelled[stream])
        test.assertTrue(set(self.sender.held()) <= set(self.sender.entries()))

    def finish(self):
        test = self.test
        while self.arrived < len(self.octets):
            self.carry_table(self.chance.randint(1, 9))
        while any(self.blocks.values()):
            self.carry_block()
        test.assertEqual(self.receiver.waiting(), ())
        for stream in STREAMS:
            read = [fields for other, fields in self.receiver.lists() if other == stream]
            if stream not in self.cancelled:
                test.assertEqual(read, self.written[stream])
        test.assertEqual((self.receiver.count(), self.receiver.entries()), (self.sender.count(), self.sender.entries()))
        self.carry_answers(1000)
        test.assertEqual((self.sender.held(), self.sender.may_wait()), ((), ()))
        untold = self.sender.count() - self.sender.known()
        if untold:
            self.receiver.tell(untold)
            self.carry_answers(1000)
        test.assertEqual(self.sender.known(), self.sender.count())
        test.assertEqual(self.receiver.answers(), [])


class BothEndsTest(unittest.TestCase):
    def test_drawn_steps(self):
        errors = 0
        for seed in range(600):
            ends = Ends(self, random.Random(seed))
            with self.subTest(seed=seed):
                for _ in range(ends.chance.randint(10, 80)):
                    ends.step()
                ends.finish()
            errors += ends.errors
        self.assertGreater(errors, 100)

    def test_as_many_streams_as_may_wait_do_wait(self):
        for waiting in range(5):
            sender, receiver = Sender(((), 120, waiting)), Receiver(((), 120, waiting))
            octets = sender.insert(("a", "x"))
            for stream in range(8):
                receiver.block(stream, sender.block(stream, (("a", "x"),)))
            self.assertEqual(receiver.waiting(), tuple(range(waiting)))
            self.assertEqual(sender.may_wait(), tuple(range(waiting)))
            receiver.take(octets)
            self.assertEqual(sorted(receiver.lists()), [(stream, (("a", "x"),)) for stream in range(8)])
            sender.answer(receiver.answers())
            self.assertEqual((sender.held(), sender.may_wait(), sender.known()), ((), (), min(waiting, 1)))

    def test_copies_of_both_ends_stand_alone(self):
        sender, receiver = Sender(((), 120, 2)), Receiver(((), 120, 2))
        receiver.take(sender.insert(("a", "x")))
        receiver.block(1, sender.block(1, (("a", "x"),)))
        others = copy.deepcopy((sender, receiver))
        others[1].take(others[0].insert(("b", "y")))
        others[0].answer(others[1].answers())
        self.assertEqual(sender_state(sender), ((0,), (1,), 0, 1, {0: ("a", "x")}))
        self.assertEqual((receiver.count(), receiver.answers()), (1, [129]))

    def parts(self, thing):
        """All that an end holds, in its own objects too."""
        if not hasattr(thing, "__dict__"):
            return copy.deepcopy(thing)
        return {name: self.parts(part) for name, part in vars(thing).items()}

    def test_copies_that_the_ends_make_are_whole_and_stand_alone(self):
        for seed in range(100):
            ends = Ends(self, random.Random(seed))
            for _ in range(40):
                ends.step()
            for end in (ends.sender, ends.receiver):
                self.assertEqual(self.parts(end.copied()), self.parts(end))
            others = ends.sender.copied(), ends.receiver.copied()
            before = [self.parts(end) for end in others]
            for _ in range(20):
                ends.step()
            ends.finish()
            self.assertEqual([self.parts(end) for end in others], before)
            after = [self.parts(end) for end in (ends.sender, ends.receiver)]
            for name, arguments in [("insert", [("c", "z")]), ("limit", [0]), ("block", [9, (("a", "x"),)])]:
                outcome(others[0], name, *arguments)
            for name, arguments in [("take", [[65]]), ("block", [9, [0, 0]]), ("cancel", [11]), ("answers", [])]:
                outcome(others[1], name, *arguments)
            self.assertNotEqual([self.parts(end) for end in others], before)
            self.assertEqual([self.parts(end) for end in (ends.sender, ends.receiver)], after)

    def test_two_senders_and_two_receivers_share_nothing(self):
        first, second = Sender(((), 120, 2)), Sender(((), 120, 2))
        octets = first.insert(("a", "x"))
        first.block(1, (("a", "x"),))
        first.answer([84])
        self.assertEqual(sender_state(second), ((), (), 0, 0, {}))
        one, other = Receiver(((), 120, 2)), Receiver(((), 120, 2))
        one.take(octets + [0])
        one.block(1, [1, 0, 128])
        one.block(2, [9, 0])
        one.cancel(3)
        self.assertEqual((other.lists(), other.waiting(), other.count(), other.entries(), other.answers()), ([], (), 0, {}, []))

    def test_the_block_of_a_sender_that_may_use_all_is_as_short_as_the_shortest(self):
        chance = random.Random(194)
        for _ in range(100):
            setting = (drawing.fields(chance, 3), 60, 4)
            sender = Sender(setting)
            for _ in range(chance.randint(0, 12)):
                sender.insert(drawing.field(chance))
            fields = drawing.fields(chance, 5)
            length, octets, lengths = shortest(setting, sender.entries(), fields)
            sent = sender.block(chance.randint(0, 20), fields)
            self.assertEqual(len(sent), length)
            self.assertIs(are_lengths(setting, sender.entries(), fields, lengths), True)
            self.assertEqual(says(setting, sender.entries(), read_block(sent)), fields)
            self.assertEqual(says(setting, sender.entries(), read_block(octets)), fields)

    def test_the_tables_are_equal_behind_the_same_instructions(self):
        chance = random.Random(195)
        for _ in range(150):
            setting = drawing.setting(chance)
            sender, receiver, slow = Sender(setting), Receiver(setting), SlowSender(setting)
            for _ in range(12):
                name, argument = chance.choice([("insert", drawing.field(chance)), ("limit", chance.randint(0, setting[1]))])
                try:
                    octets = getattr(sender, name)(argument)
                except TooGreat:
                    continue
                receiver.take(octets)
                slow.instructions.append(read_instruction(octets))
                self.assertEqual(receiver.entries(), sender.entries())
                self.assertEqual((receiver.count(), receiver.entries()), slow.table()[:2])
                self.assertEqual(run_table(setting, slow.instructions), slow.table()[:2])


if __name__ == "__main__":
    unittest.main()
