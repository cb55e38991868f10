"""The sender (point 12)."""

import copy
import random
import unittest

from fieldtable.blocks import read_block, write_block
from fieldtable.errors import FieldError
from fieldtable.instructions import read_instruction, write_answer, write_instruction
from fieldtable.senders import Sender
from tests import drawing
from tests.samples import long_field
from tests.slow_sender import SlowSender, sender_state

SETTING = ((("host", "x"), ("path", "/")), 120, 2)
AX, BY, CZ = ("a", "x"), ("b", "y"), ("c", "z")


def sender_with(setting, *fields):
    sender = Sender(setting)
    for field in fields:
        sender.insert(field)
    return sender


def answers(*all_answers):
    return [octet for answer in all_answers for octet in write_answer(answer)]


class InsertTest(unittest.TestCase):
    def check(self, sender, field, instruction):
        self.assertEqual(read_instruction(sender.insert(field)), instruction)
        self.assertEqual(sender.entries()[sender.count() - 1], field)

    def test_a_new_sender(self):
        self.assertEqual(sender_state(Sender(SETTING)), ((), (), 0, 0, {}))

    def test_written_out(self):
        sender = Sender(SETTING)
        self.assertEqual(sender.insert(AX), [65, 97, 1, 120])
        self.check(sender, long_field(), ("new",) + long_field())
        self.assertEqual(sender.entries(), {0: AX, 1: long_field()})

    def test_by_the_name_of_a_fixed_field(self):
        sender = Sender(SETTING)
        self.check(sender, ("path", "/index"), ("fixed", 1, "/index"))
        self.check(sender, ("host", ""), ("fixed", 0, ""))
        self.assertEqual(len(Sender(SETTING).insert(("host", "x"))), 3)
        self.check(sender, ("hos", ""), ("new", "hos", ""))
        self.check(sender, ("/", "x"), ("new", "/", "x"))

    def test_by_the_name_of_an_entry(self):
        sender = sender_with(SETTING, AX, BY)
        self.check(sender, ("a", "q"), ("entry", 1, "q"))
        self.assertEqual(len(sender.insert(("b", "long value"))), 1 + 1 + 10)

    def test_a_whole_entry_is_repeated(self):
        sender = sender_with(SETTING, AX, BY)
        self.check(sender, AX, ("again", 1))
        self.assertEqual(len(sender.insert(BY)), 1)
        self.assertEqual(len(sender_with(((BY,), 120, 0), BY).insert(BY)), 1)

    def test_each_is_the_shortest(self):
        setting = ((("a", "1"), ("bb", "2")), 120, 0)
        sender, slow = Sender(setting), SlowSender(setting)
        for field in [("a", "1"), ("a", "1"), ("a", "2"), ("bb", "1"), ("c", ""), ("c", "1"), ("c", ""), ("d", "1"), ("n" * 20, "")]:
            slow.judge(self, "insert", (field,), sender.insert(field))
            self.assertEqual(sender_state(sender), slow.state())

    def test_an_entry_that_left_is_not_used(self):
        sender = sender_with(((), 12, 0), AX, BY, CZ)
        self.assertEqual(read_instruction(sender.insert(AX)), ("new", "a", "x"))
        self.assertEqual(sender.entries(), {2: CZ, 3: AX})

    def test_the_entry_that_is_used_may_leave_by_it(self):
        sender = sender_with(((), 12, 0), AX, BY)
        self.assertEqual(read_instruction(sender.insert(("a", "q"))), ("entry", 1, "q"))
        self.assertEqual(read_instruction(sender.insert(BY)), ("again", 1))
        self.assertEqual(sender.entries(), {2: ("a", "q"), 3: BY})

    def test_again(self):
        sender = sender_with(SETTING, AX, BY, CZ)
        self.assertEqual(sender.again(0), [2])
        self.assertEqual(sender.again(2), [1])
        self.assertEqual(sender.again(4), [0])
        self.assertEqual(sender.entries(), {0: AX, 1: BY, 2: CZ, 3: AX, 4: CZ, 5: CZ})
        self.assertEqual(sender.count(), 6)

    def test_again_by_which_the_entry_leaves(self):
        sender = sender_with(((), 6, 0), AX)
        self.assertEqual(sender.again(0), [0])
        self.assertEqual(sender.entries(), {1: AX})

    def test_limit(self):
        sender = sender_with(SETTING, AX, BY, CZ)
        self.assertEqual(sender.limit(17), [49])
        self.assertEqual(sender.entries(), {1: BY, 2: CZ})
        self.assertEqual(sender.limit(120), write_instruction(("limit", 120)))
        self.assertEqual(sender.limit(0), [32])
        self.assertEqual((sender.entries(), sender.count()), ({}, 3))

    def test_9999_insertions(self):
        sender = sender_with(((), 5, 4), ("a", ""))
        for number in range(9998):
            sender.again(number)
        self.assertEqual((sender.count(), sender.entries()), (9999, {9998: ("a", "")}))
        # What is required takes three octets, so a longer list has to make up for it.
        self.assertEqual(read_block(sender.block(0, (("a", ""),)))[0], 0)
        octets = sender.block(0, (("a", ""),) * 16)
        self.assertEqual(read_block(octets)[0], 9999)
        self.assertEqual(len(octets), 3 + 1 + 16)


class BlockTest(unittest.TestCase):
    def test_required_0(self):
        sender = Sender(SETTING)
        self.assertEqual(sender.block(3, (("host", "x"), ("path", "q"))), [0, 0, 192, 97, 1, 113])
        self.assertEqual(sender.block(3, ()), [0, 0])
        self.assertEqual(sender_state(sender), ((), (), 0, 0, {}))

    def test_an_entry(self):
        sender = sender_with(SETTING, AX, BY)
        octets = sender.block(3, (AX,))
        self.assertEqual(len(octets), 3)
        self.assertEqual(read_block(octets)[0], 1)
        self.assertEqual(sender_state(sender)[:3], ((0,), (3,), 0))

    def test_several_streams_that_hold_entries(self):
        sender = sender_with(((), 120, 4), AX, BY, CZ)
        sender.block(9, (CZ,))
        sender.block(1, (AX, ("c", "long value of it")))
        sender.block(1, (("q", ""),))
        self.assertEqual((sender.held(), sender.may_wait()), ((0, 2), (1, 9)))
        sender.block(0, (BY,))
        self.assertEqual((sender.held(), sender.may_wait()), ((0, 1, 2), (0, 1, 9)))
        sender.answer(answers(("done", 9)))
        self.assertEqual((sender.held(), sender.may_wait(), sender.known()), ((0, 1, 2), (), 3))
        sender.answer(answers(("done", 1)))
        self.assertEqual(sender.held(), (1,))
        sender.answer(answers(("done", 0)))
        self.assertEqual(sender.held(), ())

    def test_as_many_streams_as_may_wait(self):
        sender = sender_with(((), 120, 1), AX, BY)
        self.assertEqual(read_block(sender.block(1, (AX,)))[0], 1)
        # Another stream may not wait, this one may go on to.
        self.assertEqual(sender.block(2, (AX,)), [0, 0, 33, 97, 1, 120])
        self.assertEqual(read_block(sender.block(1, (BY,)))[0], 2)
        self.assertEqual(sender.may_wait(), (1,))
        sender.answer(answers(("received", 1)))
        self.assertEqual(sender.may_wait(), (1,))
        # What is known may be referred to on any stream, the rest not.
        self.assertEqual(read_block(sender.block(2, (AX, BY)))[0], 1)
        sender.answer(answers(("received", 1)))
        self.assertEqual(sender.may_wait(), ())
        self.assertEqual(read_block(sender.block(2, (AX, BY)))[0], 2)

    def test_waiting_0(self):
        sender = sender_with(((), 120, 0), AX, BY)
        self.assertEqual(read_block(sender.block(1, (AX, BY)))[0], 0)
        sender.answer(answers(("received", 1)))
        self.assertEqual(read_block(sender.block(1, (AX, BY)))[0], 1)
        self.assertEqual((sender.held(), sender.may_wait()), ((0,), ()))
        sender.answer(answers(("received", 1)))
        self.assertEqual(read_block(sender.block(1, (AX, BY)))[0], 2)

    def test_an_entry_of_the_same_field_that_is_known(self):
        sender = sender_with(((), 120, 0), AX, BY, AX)
        sender.answer(answers(("received", 2)))
        required, _, lines = read_block(sender.block(1, (AX,)))
        self.assertEqual((required, lines), (1, (("entry", 0),)))

    def test_the_least_required_among_the_shortest(self):
        sender = sender_with(((), 120, 4), AX, BY, AX, AX)
        self.assertEqual(read_block(sender.block(1, (AX,)))[0], 1)
        self.assertEqual(read_block(sender.block(1, (BY, AX)))[0], 2)
        self.assertEqual(read_block(sender.block(1, (("q", "q"),)))[0], 0)
        self.assertEqual(read_block(sender.block(1, ()))[0], 0)

    def test_a_shorter_block_counts_ahead_of_a_lesser_required(self):
        sender = sender_with(((), 120, 4), ("a", "long"), AX)
        self.assertEqual(read_block(sender.block(1, (AX,)))[0], 2)

    def test_a_fixed_field_or_an_entry(self):
        sender = sender_with(((AX,), 120, 4), AX, ("a", "q"))
        self.assertEqual(read_block(sender.block(1, (AX,))), (0, 0, (("fixed", 0),)))
        self.assertEqual(len(sender.block(1, (("a", "q"),))), 3)

    def test_a_stream_that_was_cancelled(self):
        sender = sender_with(((), 120, 4), AX, BY)
        sender.block(5, (AX,))
        sender.block(5, (BY,))
        sender.block(6, (BY,))
        sender.answer(answers(("cancelled", 5)))
        self.assertEqual((sender.held(), sender.may_wait(), sender.known()), ((1,), (6,), 0))
        sender.answer(answers(("received", 2)))
        self.assertEqual(sender.block(5, (AX, ("b", "q"))), [0, 0, 33, 97, 1, 120, 33, 98, 1, 113])
        self.assertEqual(sender.block(5, ()), [0, 0])
        self.assertEqual((sender.held(), sender.may_wait()), ((1,), ()))

    def test_a_stream_that_was_cancelled_may_use_fixed_fields(self):
        sender = sender_with(SETTING, AX)
        sender.answer(answers(("cancelled", 20)))
        self.assertEqual(sender.block(20, (("path", "/"),)), [0, 0, 193])

    def test_only_entries_in_the_table(self):
        sender = sender_with(((), 12, 4), AX, BY, CZ)
        self.assertEqual(sender.block(1, (AX,)), [0, 0, 33, 97, 1, 120])
        self.assertEqual(read_block(sender.block(1, (BY,)))[0], 2)
        self.assertEqual(sender.held(), (1,))

    def test_the_longest_lists(self):
        sender = sender_with(((), 120, 4), long_field())
        self.assertEqual(len(sender.block(0, (long_field(),) * 16)), 18)
        self.assertEqual(len(Sender(SETTING).block(0, (long_field(),) * 16)), 2 + 16 * (2 + 20 + 1 + 40))


class AnswerTest(unittest.TestCase):
    def sender(self):
        sender = sender_with(((), 120, 4), AX, BY, CZ)
        for stream, field in [(3, AX), (3, CZ), (3, BY), (8, BY)]:
            sender.block(stream, (field,))
        self.assertEqual(sender_state(sender)[:4], ((0, 1, 2), (3, 8), 0, 3))
        return sender

    def test_no_answers(self):
        sender = self.sender()
        self.assertIsNone(sender.answer([]))
        self.assertEqual(sender_state(sender)[:4], ((0, 1, 2), (3, 8), 0, 3))

    def test_done_is_for_the_oldest_open_block(self):
        sender = self.sender()
        self.assertIsNone(sender.answer([131]))
        self.assertEqual(sender_state(sender)[:3], ((1, 2), (3, 8), 1))
        sender.answer([131])
        self.assertEqual(sender_state(sender)[:3], ((1,), (), 3))
        sender.answer([131])
        self.assertEqual(sender_state(sender)[:3], ((1,), (), 3))
        sender.answer([136])
        self.assertEqual(sender_state(sender)[:3], ((), (), 3))

    def test_blocks_with_required_0_are_never_open(self):
        sender = sender_with(((), 120, 4), AX)
        sender.block(3, (("q", ""),))
        sender.block(3, (AX,))
        sender.block(3, (("q", ""),))
        sender.answer([131])
        self.assertEqual(sender_state(sender)[:3], ((), (), 1))
        with self.assertRaises(FieldError):
            sender.answer([131])

    def test_several_at_once_are_as_one_by_one(self):
        all_answers = [("done", 3), ("received", 1), ("cancelled", 3), ("done", 8), ("cancelled", 8), ("received", 1), ("cancelled", 0)]
        for cuts in range(2 ** (len(all_answers) - 1)):
            sender, octets = self.sender(), []
            for at, answer in enumerate(all_answers):
                octets.extend(write_answer(answer))
                if cuts >> at & 1:
                    sender.answer(octets)
                    octets = []
            sender.answer(octets)
            self.assertEqual(sender_state(sender), ((), (), 3, 3, {0: AX, 1: BY, 2: CZ}))

    def test_received(self):
        sender = self.sender()
        sender.answer([1])
        self.assertEqual(sender_state(sender)[:3], ((0, 1, 2), (3, 8), 1))
        sender.answer([1])
        self.assertEqual(sender_state(sender)[:3], ((0, 1, 2), (3,), 2))
        sender.answer([1])
        self.assertEqual(sender_state(sender)[:3], ((0, 1, 2), (), 3))

    def test_done_for_less_than_is_known(self):
        sender = self.sender()
        sender.answer([2, 131])
        self.assertEqual(sender.known(), 2)
        sender.answer([1])
        self.assertEqual(sender.known(), 3)

    def test_received_more_than_one_octet_holds(self):
        sender = Sender(((), 5, 0))
        sender.insert(("a", ""))
        for number in range(199):
            sender.again(number)
        sender.answer(answers(("received", 63), ("received", 137)))
        self.assertEqual(sender.known(), 200)

    def test_cancelled_without_a_block(self):
        sender = self.sender()
        sender.answer([64, 84])
        self.assertEqual(sender_state(sender)[:3], ((0, 1, 2), (3, 8), 0))

    def test_held_entries_may_leave_when_they_are_held_no_longer(self):
        sender = sender_with(((), 6, 1), AX)
        sender.block(0, (AX,))
        with self.assertRaises(FieldError):
            sender.insert(BY)
        sender.answer([128])
        sender.insert(BY)
        self.assertEqual(sender.entries(), {1: BY})


class OwnershipTest(unittest.TestCase):
    def test_what_is_returned_belongs_to_the_caller(self):
        sender = sender_with(SETTING, AX)
        sender.entries().clear()
        sender.entries()[0] = BY
        kept = sender.entries()
        self.assertEqual(kept, {0: AX})
        sender.insert(BY).append(255)
        sender.again(0).clear()
        octets = sender.block(0, (AX,))
        self.assertEqual(len(octets), 3)
        octets.clear()
        self.assertEqual(kept, {0: AX})
        self.assertEqual(sender.entries(), {0: AX, 1: BY, 2: AX})
        self.assertIsNot(sender.entries(), sender.entries())

    def test_octets_that_are_changed_later(self):
        sender = sender_with(SETTING, AX, BY)
        octets = [1]
        sender.answer(octets)
        octets.append(255)
        octets[0] = 2
        self.assertEqual(sender.known(), 1)


class DrawnTest(unittest.TestCase):
    """Calls of all kinds, good and bad ones, beside the slow sender."""

    def drawn_answers(self, chance, slow):
        opened, known, cancelled = slow.account()
        count = slow.table()[0]
        found = []
        for _ in range(chance.choice([1, 1, 1, 2, 3, 4])):
            kind = chance.choice(["done"] * 4 + ["received"] * 2 + ["cancelled"])
            if kind == "done":
                streams = [stream for stream, _, _ in opened] or [chance.randint(0, 20)]
                found.append((kind, chance.choice(streams)))
            elif kind == "received":
                found.append((kind, chance.randint(1, max(1, count - known + chance.randint(0, 1)))))
            else:
                found.append((kind, chance.choice([0, 1, 2, 20])))
        octets = answers(*found)
        if chance.random() < 0.05:
            octets.append(chance.choice([0, 63, 85, 149, 255, 127, 191]))
        return octets

    def drawn_call(self, chance, slow):
        name = chance.choice(["insert"] * 4 + ["again", "limit"] + ["block"] * 5 + ["answer"] * 4)
        count, entries, _, _ = slow.table()
        if name == "insert":
            return (name, drawing.wide_field(chance) if chance.random() < 0.3 else drawing.field(chance))
        if name == "again":
            return (name, chance.choice(list(entries) * 3 + [0, count, count + 1]))
        if name == "limit":
            return (name, chance.choice([0, 6, 12, 20, 60, slow.setting[1], slow.setting[1], slow.setting[1] + 1]))
        if name == "answer":
            return (name, self.drawn_answers(chance, slow))
        there = list(entries.values()) + list(slow.setting[0]) + [drawing.field(chance)]
        return (name, chance.choice([0, 1, 2, 3, 20]), tuple(chance.choice(there) for _ in range(chance.randint(0, 3))))

    def run_calls(self, seed):
        chance = random.Random(seed)
        fixed, room, waiting = drawing.setting(chance)
        setting = (fixed, min(room, 31), waiting)
        sender, slow, errors = Sender(setting), SlowSender(setting), []
        for _ in range(chance.randint(5, 20)):
            name, *arguments = self.drawn_call(chance, slow)
            before = copy.deepcopy(arguments)
            error = slow.expected(name, *arguments)
            if error is None:
                slow.judge(self, name, arguments, getattr(sender, name)(*arguments))
            else:
                errors.append(type(error).__name__)
                with self.assertRaises(FieldError) as caught:
                    getattr(sender, name)(*arguments)
                self.assertIs(type(caught.exception), type(error))
                self.assertEqual(vars(caught.exception), vars(error))
            self.assertEqual(arguments, before)
            self.assertEqual(sender_state(sender), slow.state())
        return errors

    def test_drawn_calls(self):
        errors = {}
        for seed in range(1000):
            with self.subTest(seed=seed):
                for name in self.run_calls(seed):
                    errors[name] = errors.get(name, 0) + 1
        for name in ("Held", "TooGreat", "NoNumber", "BadAnswer"):
            self.assertGreater(errors.get(name, 0), 20, name)


class BlockSizesTest(unittest.TestCase):
    def test_a_block_writes_what_it_was_read_as(self):
        sender = sender_with(((), 120, 4), *[("a", str(number)) for number in range(20)])
        for number in range(20):
            octets = sender.block(number, (("a", str(number)), ("a", "new")))
            self.assertEqual(write_block(read_block(octets)), octets)


if __name__ == "__main__":
    unittest.main()
