"""The receiver (point 10)."""

import copy
import random
import unittest

from fieldtable.blocks import write_block
from fieldtable.errors import FieldError
from fieldtable.instructions import write_answer, write_instruction
from fieldtable.receivers import Receiver
from tests import drawing
from tests.slow_receiver import SlowReceiver, state_of

SETTING = ((("host", "x"), ("path", "/")), 120, 2)


def instructions_octets(*instructions):
    return [octet for instruction in instructions for octet in write_instruction(instruction)]


def answers_octets(*answers):
    return [octet for answer in answers for octet in write_answer(answer)]


def block(required, *lines):
    return write_block((required, required, lines))


AX = ("new", "a", "x")
BY = ("new", "b", "y")
BOTH = instructions_octets(AX, BY)


class TakeTest(unittest.TestCase):
    STREAM = [AX, ("fixed", 1, "/index"), ("entry", 1, ""), ("again", 0), ("limit", 100), ("new", "n" * 20, "v" * 40), ("limit", 120)]
    ENTRIES = {0: ("a", "x"), 1: ("path", "/index"), 2: ("a", ""), 3: ("a", ""), 4: ("n" * 20, "v" * 40)}

    def setUp(self):
        self.octets = instructions_octets(*self.STREAM)
        self.assertGreater(len(write_instruction(("limit", 100))), 1)

    def test_a_new_receiver(self):
        receiver = Receiver(SETTING)
        self.assertEqual(state_of(receiver, copy.deepcopy), ([], (), 0, {}, 0, []))

    def test_all_in_one_piece(self):
        receiver = Receiver(SETTING)
        self.assertIsNone(receiver.take(self.octets))
        self.assertEqual((receiver.count(), receiver.entries()), (5, self.ENTRIES))

    def test_cut_at_every_place(self):
        for at in range(len(self.octets) + 1):
            receiver = Receiver(SETTING)
            receiver.take(self.octets[:at])
            receiver.take(self.octets[at:])
            self.assertEqual((receiver.count(), receiver.entries()), (5, self.ENTRIES))

    def test_octet_by_octet(self):
        ends = []
        for instruction in self.STREAM:
            ends.append(len(write_instruction(instruction)) + (ends[-1] if ends else 0))
        receiver = Receiver(SETTING)
        counts = []
        for octet in self.octets:
            receiver.take([octet])
            receiver.take([])
            counts.append(receiver.count())
        # An insertion is carried out with its last octet, no sooner and no later.
        changes = [at + 1 for at in range(len(counts)) if counts[at] != ([0] + counts)[at]]
        self.assertEqual(changes, [end for end, kind in zip(ends, self.STREAM) if kind[0] != "limit"])
        self.assertEqual((receiver.count(), receiver.entries()), (5, self.ENTRIES))

    def test_a_limit_is_carried_out_with_its_last_octet(self):
        receiver = Receiver(SETTING)
        receiver.take(BOTH)
        octets = write_instruction(("limit", 31))
        self.assertEqual(len(octets), 2)
        receiver.take(octets[:1])
        receiver.take([0] + write_instruction(("limit", 11)))
        self.assertEqual(receiver.entries(), {1: ("b", "y")})

    def test_entries_that_leave(self):
        receiver = Receiver(((), 12, 0))
        receiver.take(BOTH)
        self.assertEqual(receiver.entries(), {0: ("a", "x"), 1: ("b", "y")})
        receiver.take(instructions_octets(("again", 1)))
        self.assertEqual(receiver.entries(), {1: ("b", "y"), 2: ("a", "x")})
        receiver.take(instructions_octets(("limit", 6)))
        self.assertEqual(receiver.entries(), {2: ("a", "x")})
        self.assertEqual(receiver.count(), 3)

    def test_no_octets_at_all(self):
        receiver = Receiver(SETTING)
        self.assertIsNone(receiver.take([]))
        self.assertEqual(receiver.count(), 0)

    def test_9999_insertions(self):
        receiver = Receiver(((), 5, 0))
        receiver.take([65, 97, 0])
        for _ in range(9):
            receiver.take([0] * 1110)
        receiver.take([0] * 8)
        self.assertEqual((receiver.count(), receiver.entries()), (9999, {9998: ("a", "")}))
        receiver.block(3, block(9999, ("entry", 9998)))
        self.assertEqual(receiver.lists(), [(3, (("a", ""),))])
        self.assertEqual(receiver.answers(), [131])


class BlockTest(unittest.TestCase):
    def test_the_example_of_the_document(self):
        receiver = Receiver(((), 60, 1))
        self.assertIsNone(receiver.block(5, [1, 0, 128]))
        self.assertEqual(receiver.waiting(), (5,))
        self.assertIsNone(receiver.take([65, 97, 1, 120]))
        self.assertEqual(receiver.lists(), [(5, (("a", "x"),))])
        self.assertEqual(receiver.answers(), [133])

    def test_a_block_behind_the_insertions_that_it_requires(self):
        receiver = Receiver(((), 120, 0))
        receiver.take(BOTH)
        receiver.block(0, block(2, ("entry", 0), ("entry", 1, "z"), ("out", "o", "")))
        self.assertEqual(receiver.lists(), [(0, (("a", "x"), ("b", "z"), ("o", "")))])
        self.assertEqual(receiver.waiting(), ())

    def test_a_block_is_read_with_the_instruction_that_it_waits_for(self):
        receiver = Receiver(SETTING)
        receiver.block(7, block(2, ("entry", 0)))
        for octet in BOTH[:-1]:
            receiver.take([octet])
            self.assertEqual((receiver.lists(), receiver.waiting()), ([], (7,)))
        receiver.take(BOTH[-1:])
        self.assertEqual((receiver.lists(), receiver.waiting()), ([(7, (("a", "x"),))], ()))

    def test_required_0_never_waits(self):
        receiver = Receiver(((("h", "x"),), 0, 0))
        receiver.block(20, block(0, ("fixed", 0), ("fixed", 0, "y"), ("out", "a", "b")))
        self.assertEqual(receiver.lists(), [(20, (("h", "x"), ("h", "y"), ("a", "b")))])
        self.assertEqual(receiver.answers(), [])

    def test_several_streams_are_read_ascending(self):
        receiver = Receiver(((), 120, 4))
        for stream in (9, 2, 20, 0):
            receiver.block(stream, block(1, ("entry", 0, str(stream))))
        self.assertEqual(receiver.waiting(), (0, 2, 9, 20))
        receiver.take(BOTH)
        self.assertEqual(receiver.lists(), [(stream, (("a", str(stream)),)) for stream in (0, 2, 9, 20)])
        self.assertEqual(receiver.answers(), [128, 130, 137, 148])

    def test_all_of_a_stream_ahead_of_the_next_stream(self):
        receiver = Receiver(((), 120, 4))
        receiver.block(3, block(1, ("out", "c", "1")))
        receiver.block(1, block(2, ("out", "a", "1")))
        receiver.block(3, block(0, ("out", "c", "2")))
        receiver.block(1, block(1, ("out", "a", "2")))
        receiver.take(BOTH)
        self.assertEqual(
            receiver.lists(), [(1, (("a", "1"),)), (1, (("a", "2"),)), (3, (("c", "1"),)), (3, (("c", "2"),))],
        )

    def test_what_is_read_sooner_stands_sooner(self):
        receiver = Receiver(((), 120, 4))
        receiver.block(1, block(2))
        receiver.block(3, block(1))
        receiver.take(instructions_octets(AX))
        receiver.block(5, block(0))
        receiver.take(instructions_octets(BY))
        self.assertEqual([stream for stream, _ in receiver.lists()], [3, 5, 1])

    def test_blocks_behind_one_that_waits(self):
        receiver = Receiver(((), 120, 1))
        receiver.block(4, block(1, ("out", "a", "1")))
        receiver.block(4, block(0, ("out", "a", "2")))
        receiver.block(4, block(3, ("out", "a", "3")))
        receiver.block(4, block(1, ("out", "a", "4")))
        self.assertEqual((receiver.waiting(), receiver.lists()), ((4,), []))
        receiver.take(BOTH)
        self.assertEqual(receiver.lists(), [(4, (("a", "1"),)), (4, (("a", "2"),))])
        self.assertEqual(receiver.waiting(), (4,))
        receiver.take(instructions_octets(AX))
        self.assertEqual([fields for _, fields in receiver.lists()], [(("a", str(n)),) for n in (1, 2, 3, 4)])
        self.assertEqual(receiver.waiting(), ())
        self.assertEqual(receiver.answers(), [132] * 3)

    def test_a_stream_that_waits_leaves_its_place(self):
        receiver = Receiver(((), 120, 1))
        receiver.block(4, block(1))
        receiver.take(instructions_octets(AX))
        receiver.block(5, block(2))
        self.assertEqual(receiver.waiting(), (5,))
        receiver.cancel(5)
        receiver.block(6, block(2))
        self.assertEqual(receiver.waiting(), (6,))

    def test_as_many_as_may_wait(self):
        for waiting in range(5):
            receiver = Receiver(((), 120, waiting))
            for stream in range(waiting):
                receiver.block(stream, block(1))
                receiver.block(stream, block(2))
            self.assertEqual(receiver.waiting(), tuple(range(waiting)))

    def test_an_entry_that_left_is_not_read_even_if_an_equal_one_came(self):
        receiver = Receiver(((), 6, 1))
        receiver.take(instructions_octets(AX, ("again", 0)))
        receiver.block(0, block(2, ("entry", 1)))
        self.assertEqual(receiver.lists(), [(0, (("a", "x"),))])

    def test_what_was_read_stays_when_its_entry_leaves(self):
        receiver = Receiver(((), 6, 1))
        receiver.take(instructions_octets(AX))
        receiver.block(0, block(1, ("entry", 0)))
        receiver.take(instructions_octets(BY))
        self.assertEqual(receiver.lists(), [(0, (("a", "x"),))])
        self.assertEqual(receiver.entries(), {1: ("b", "y")})

    def test_the_same_list_on_several_streams(self):
        receiver = Receiver(SETTING)
        for stream in (5, 1, 5):
            receiver.block(stream, block(0, ("fixed", 0)))
        self.assertEqual(receiver.lists(), [(stream, (("host", "x"),)) for stream in (5, 1, 5)])


class AnswersTest(unittest.TestCase):
    def test_done_for_a_required_other_than_0_alone(self):
        receiver = Receiver(SETTING)
        receiver.take(BOTH)
        receiver.block(1, block(0, ("fixed", 0)))
        self.assertEqual(receiver.answers(), [])
        receiver.block(2, block(1, ("fixed", 0)))
        self.assertEqual(receiver.answers(), answers_octets(("done", 2)))
        receiver.block(20, block(2))
        receiver.block(0, block(2))
        self.assertEqual(receiver.answers(), answers_octets(("done", 20), ("done", 0)))

    def test_answers_twice(self):
        receiver = Receiver(SETTING)
        receiver.take(BOTH)
        receiver.tell(1)
        receiver.block(3, block(2))
        receiver.cancel(3)
        self.assertEqual(receiver.answers(), [1, 131, 67])
        self.assertEqual(receiver.answers(), [])
        receiver.cancel(0)
        self.assertEqual(receiver.answers(), [64])
        self.assertEqual(receiver.answers(), [])

    def test_a_stream_that_waits_is_answered_when_it_is_read(self):
        receiver = Receiver(SETTING)
        receiver.block(3, block(1))
        self.assertEqual(receiver.answers(), [])
        receiver.take(BOTH)
        self.assertEqual(receiver.answers(), [131])

    def test_tell_makes_received(self):
        receiver = Receiver(((), 5, 0))
        receiver.take([65, 97, 0] + [0] * 199)
        self.assertIsNone(receiver.tell(1))
        self.assertIsNone(receiver.tell(199))
        self.assertEqual(receiver.answers(), answers_octets(("received", 1), ("received", 199)))

    def test_tell_and_done_together(self):
        receiver = Receiver(((), 120, 4))
        receiver.take(instructions_octets(AX, ("again", 0), ("again", 0), ("again", 0), ("again", 0), ("again", 0)))
        receiver.tell(2)
        self.assertEqual(state_of(receiver, copy.deepcopy)[4], 4)
        receiver.block(0, block(1))
        self.assertEqual(state_of(receiver, copy.deepcopy)[4], 4)
        receiver.block(0, block(5))
        self.assertEqual(state_of(receiver, copy.deepcopy)[4], 1)
        receiver.block(0, block(4))
        self.assertEqual(state_of(receiver, copy.deepcopy)[4], 1)
        receiver.tell(1)
        self.assertEqual(state_of(receiver, copy.deepcopy)[4], 0)
        receiver.block(1, block(8))
        self.assertEqual(state_of(receiver, copy.deepcopy)[4], 0)
        receiver.take([0, 0, 0])
        self.assertEqual(state_of(receiver, copy.deepcopy)[4], 1)
        self.assertEqual(
            receiver.answers(), answers_octets(("received", 2), *[("done", 0)] * 3, ("received", 1), ("done", 1)),
        )

    def test_a_block_that_is_ignored_tells_nothing(self):
        receiver = Receiver(SETTING)
        receiver.take(BOTH)
        receiver.cancel(0)
        receiver.block(0, block(2))
        receiver.tell(2)
        self.assertEqual(receiver.answers(), answers_octets(("cancelled", 0), ("received", 2)))


class CancelTest(unittest.TestCase):
    def test_a_stream_that_waits(self):
        receiver = Receiver(((), 120, 1))
        receiver.block(4, block(1, ("out", "a", "1")))
        receiver.block(4, block(0, ("out", "a", "2")))
        self.assertIsNone(receiver.cancel(4))
        self.assertEqual((receiver.waiting(), receiver.lists()), ((), []))
        receiver.take(BOTH)
        self.assertEqual(receiver.lists(), [])
        self.assertEqual(receiver.answers(), [68])

    def test_blocks_that_come_later_whatever_their_octets_are(self):
        receiver = Receiver(((), 120, 0))
        receiver.cancel(4)
        for octets in [block(0), block(7), [], [0], [0, 0, 255], [0, 0, 192], [1, 2], [0] * 50, block(0, ("fixed", 9))]:
            self.assertIsNone(receiver.block(4, octets))
        self.assertEqual((receiver.waiting(), receiver.lists(), receiver.answers()), ((), [], [68]))

    def test_what_was_read_before_stays(self):
        receiver = Receiver(SETTING)
        receiver.block(4, block(0, ("fixed", 1)))
        receiver.cancel(4)
        receiver.block(4, block(0, ("fixed", 1)))
        self.assertEqual(receiver.lists(), [(4, (("path", "/"),))])

    def test_other_streams_go_on(self):
        receiver = Receiver(SETTING)
        receiver.block(4, block(1))
        receiver.block(5, block(1))
        receiver.cancel(4)
        self.assertEqual(receiver.waiting(), (5,))
        receiver.take(BOTH)
        self.assertEqual(receiver.lists(), [(5, ())])

    def test_each_stream(self):
        receiver = Receiver(SETTING)
        for stream in range(21):
            receiver.cancel(stream)
        self.assertEqual(receiver.answers(), list(range(64, 85)))


class OwnershipTest(unittest.TestCase):
    def receiver(self):
        receiver = Receiver(SETTING)
        receiver.take(BOTH)
        receiver.block(1, block(1, ("entry", 0)))
        return receiver

    def test_the_lists_belong_to_the_caller(self):
        receiver = self.receiver()
        receiver.lists().clear()
        receiver.lists()[0] = None
        self.assertEqual(receiver.lists(), [(1, (("a", "x"),))])
        kept = receiver.lists()
        receiver.block(2, block(0))
        self.assertEqual(len(kept), 1)
        self.assertIsNot(receiver.lists(), receiver.lists())

    def test_the_entries_belong_to_the_caller(self):
        receiver = self.receiver()
        receiver.entries().clear()
        receiver.entries()[0] = ("z", "z")
        kept = receiver.entries()
        self.assertEqual(kept, {0: ("a", "x"), 1: ("b", "y")})
        receiver.take(instructions_octets(("limit", 0)))
        self.assertEqual(len(kept), 2)
        self.assertEqual(receiver.entries(), {})

    def test_the_answers_belong_to_the_caller(self):
        receiver = self.receiver()
        first = receiver.answers()
        self.assertEqual(first, [129])
        second = receiver.answers()
        second.append(7)
        first.append(8)
        self.assertEqual(receiver.answers(), [])
        receiver.tell(1)
        self.assertEqual(receiver.answers(), [1])
        self.assertEqual((first, second), ([129, 8], [7]))

    def test_octets_that_are_changed_later(self):
        receiver = Receiver(SETTING)
        half = BOTH[:3]
        receiver.take(half)
        half.extend([255] * 9)
        receiver.take(BOTH[3:])
        self.assertEqual(receiver.entries(), {0: ("a", "x"), 1: ("b", "y")})
        octets = block(3, ("entry", 0))
        receiver.block(1, octets)
        octets[:] = [0, 0]
        self.assertEqual(receiver.waiting(), (1,))
        receiver.take([0])
        self.assertEqual(receiver.lists(), [(1, (("a", "x"),))])

    def test_arguments_are_not_changed(self):
        receiver = Receiver(SETTING)
        for name, arguments in [("take", (BOTH[:5],)), ("block", (2, block(2, ("entry", 0)))), ("take", (BOTH[5:],)),
                                ("block", (2, block(2))), ("block", (2, [9])), ("take", ([255, 255, 255],)),
                                ("take", ([95, 32],))]:
            before = copy.deepcopy(arguments)
            try:
                getattr(receiver, name)(*arguments)
            except FieldError:
                pass
            self.assertEqual(arguments, before)


class DrawnTest(unittest.TestCase):
    """Calls of all kinds, good and bad ones, beside the slow receiver."""

    def drawn_octets(self, chance):
        """Octets of the table's stream: what may come next, or something else now and then."""
        if chance.random() < 0.08:
            return [chance.randint(0, 255) for _ in range(chance.randint(0, 5))]
        octets = []
        for _ in range(chance.randint(1, 3)):
            octets.extend(write_instruction(drawing.instruction(chance)))
        return octets

    def drawn_block(self, chance, state):
        if chance.random() < 0.1:
            return [chance.randint(0, 255) for _ in range(chance.randint(0, 4))]
        _, _, count, entries, _, _ = state
        required = max(0, count + chance.choice([-1, 0, 0, 0, 1, 1, 2])) if chance.random() < 0.8 else 0
        lines = []
        for _ in range(chance.randint(0, 3)):
            kind = chance.choice(["fixed", "entry", "entry", "entry", "out"])
            if kind == "out":
                lines.append((kind,) + drawing.field(chance))
            elif kind == "fixed":
                lines.append((kind, chance.choice([0, 0, 1, 3])) + chance.choice([(), ("v",)]))
            elif required:
                near = [number for number in entries if number < required]
                number = chance.choice(near) if near and chance.random() < 0.9 else chance.randint(0, required - 1)
                lines.append((kind, number) + chance.choice([(), ("v",)]))
        return write_block((required, chance.randint(0, required), tuple(lines)))

    def drawn_call(self, chance, slow, rest):
        state = slow.state()
        name = chance.choice(["take"] * 5 + ["block"] * 5 + ["tell", "cancel", "answers"])
        stream = chance.choice([0, 1, 2, 7, 20])
        if name == "take":
            octets = rest or self.drawn_octets(chance)
            return ("take", octets[:chance.randint(0, len(octets))] if chance.random() < 0.4 else octets), octets
        if name == "block":
            return ("block", stream, self.drawn_block(chance, state)), rest
        if name == "tell":
            return ("tell", chance.randint(0, state[4] + 1)), rest
        if name == "cancel":
            return ("cancel", stream), rest
        return ("answers",), rest

    def run_calls(self, seed):
        chance = random.Random(seed)
        setting = drawing.setting(chance)
        receiver, slow, rest = Receiver(setting), SlowReceiver(setting), []
        errors = []
        for _ in range(chance.randint(5, 25)):
            call, octets = self.drawn_call(chance, slow, rest)
            before = copy.deepcopy(call)
            try:
                expected = slow.call(*call)
            except FieldError as error:
                with self.assertRaises(type(error)) as caught:
                    getattr(receiver, call[0])(*call[1:])
                self.assertEqual(vars(caught.exception), vars(error))
                errors.append(type(error).__name__)
                rest = []
            else:
                self.assertEqual(getattr(receiver, call[0])(*call[1:]), expected)
                if call[0] == "take":
                    rest = octets[len(call[1]):]
            self.assertEqual(call, before)
            self.assertEqual(state_of(receiver, copy.deepcopy), slow.state())
        return errors

    def test_drawn_calls(self):
        errors = {}
        for seed in range(500):
            with self.subTest(seed=seed):
                for name in self.run_calls(seed):
                    errors[name] = errors.get(name, 0) + 1
        for name in ("BadTable", "BadBlock", "TooMany", "NoNumber", "NoStream"):
            self.assertGreater(errors.get(name, 0), 20, name)


if __name__ == "__main__":
    unittest.main()
