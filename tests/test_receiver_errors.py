"""The errors of the receiver (point 11): each leaves everything as it was."""

import copy
import unittest

from fieldtable.blocks import write_block
from fieldtable.errors import BadBlock, BadTable, FieldError, NoNumber, NoOctetList, NoSetting, NoStream, TooMany
from fieldtable.receivers import Receiver
from tests.samples import NO_OCTETS, ODD_THINGS
from tests.slow_receiver import state_of
from tests.test_receivers import AX, BOTH, BY, SETTING, block, instructions_octets

NO_STREAMS = [-1, 21, 10 ** 20, -10 ** 20, True, False, None, 1.0, "1", "", (1,), [1], {1: 1}, b"1"]


class Refusing(unittest.TestCase):
    def refuse(self, receiver, error, name, *arguments, **attributes):
        """The call raises just this error with these attributes, and nothing is changed by it."""
        before, said = state_of(receiver, copy.deepcopy), repr(arguments)
        for _ in range(2):
            with self.assertRaises(FieldError) as caught:
                getattr(receiver, name)(*arguments)
            self.assertIs(type(caught.exception), error)
            self.assertEqual(vars(caught.exception), attributes)
            self.assertEqual(state_of(receiver, copy.deepcopy), before)
        self.assertEqual(repr(arguments), said)

    def goes_on(self, receiver, count):
        """A receiver goes on where it was: an insertion that stands alone is carried out, and a block read."""
        receiver.take(instructions_octets(("new", "z", "")))
        self.assertEqual(receiver.count(), count + 1)
        self.assertEqual(receiver.entries()[count], ("z", ""))
        receiver.block(19, block(count + 1, ("entry", count)))
        self.assertEqual(receiver.lists()[-1], (19, (("z", ""),)))


class ArgumentsTest(Refusing):
    def test_no_setting(self):
        for thing in ODD_THINGS + [((), 121, 0), ((), -1, 0), ((), 0, 5), ((), 0, -1), ((), True, 0), ((), 0, True),
                                   [(), 0, 0], ([], 0, 0), ((("a", ""),) * 13, 0, 0), ((), 0), ((), 0, 0, 0)]:
            with self.subTest(thing=thing), self.assertRaises(FieldError) as caught:
                Receiver(thing)
            self.assertIs(type(caught.exception), NoSetting)

    def test_no_octets(self):
        receiver = Receiver(SETTING)
        receiver.take(BOTH[:5])
        receiver.cancel(2)
        for thing in NO_OCTETS:
            with self.subTest(thing=thing):
                self.refuse(receiver, NoOctetList, "take", thing)
                self.refuse(receiver, NoOctetList, "block", 1, thing)
                self.refuse(receiver, NoOctetList, "block", 2, thing)
        receiver.take(BOTH[5:])
        self.goes_on(receiver, 2)

    def test_no_stream(self):
        receiver = Receiver(SETTING)
        for thing in NO_STREAMS:
            with self.subTest(thing=thing):
                self.refuse(receiver, NoStream, "block", thing, [0, 0])
                self.refuse(receiver, NoStream, "block", thing, None)
                self.refuse(receiver, NoStream, "block", thing, [9])
                self.refuse(receiver, NoStream, "cancel", thing)
        self.goes_on(receiver, 0)

    def test_a_stream_that_was_cancelled(self):
        receiver = Receiver(SETTING)
        receiver.block(3, block(1))
        receiver.cancel(3)
        self.refuse(receiver, NoStream, "cancel", 3)
        receiver.block(3, block(0))
        self.refuse(receiver, NoStream, "cancel", 3)
        receiver.answers()
        self.refuse(receiver, NoStream, "cancel", 3)
        self.goes_on(receiver, 0)

    def test_no_number(self):
        receiver = Receiver(SETTING)
        self.refuse(receiver, NoNumber, "tell", 0)
        self.refuse(receiver, NoNumber, "tell", 1)
        receiver.take(BOTH)
        for thing in [0, -1, 3, 10 ** 20, -10 ** 20, True, False, None, 1.0, "1", (1,), [1], b"1"]:
            with self.subTest(thing=thing):
                self.refuse(receiver, NoNumber, "tell", thing)
        receiver.tell(1)
        self.refuse(receiver, NoNumber, "tell", 2)
        self.refuse(receiver, NoNumber, "tell", True)
        receiver.tell(1)
        self.refuse(receiver, NoNumber, "tell", 1)
        self.goes_on(receiver, 2)

    def test_no_number_behind_a_block_that_is_done(self):
        receiver = Receiver(SETTING)
        receiver.take(BOTH)
        receiver.block(0, block(2))
        self.refuse(receiver, NoNumber, "tell", 1)


class BadTableTest(Refusing):
    # The last octet of each cannot stand there, whatever would follow.
    UNREADABLE = [
        [64], [65, 65], [65, 97, 41], [65, 97, 128], [65, 97, 1, 64], [85], [95], [63, 128, 0], [31, 255, 255],
        [192, 127], [128, 41], [128, 2, 97, 95],
    ]
    UNDOABLE = [
        ("fixed", 2, ""), ("fixed", 9999, ""), ("entry", 1, ""), ("entry", 9999, ""), ("again", 1), ("again", 9999),
        ("limit", 121), ("limit", 9999),
    ]

    def begun(self):
        receiver = Receiver(SETTING)
        receiver.take(instructions_octets(("limit", 120), AX, ("limit", 110)))
        receiver.block(4, block(3, ("entry", 0)))
        return receiver

    def test_octets_that_cannot_be_read(self):
        for octets in self.UNREADABLE:
            with self.subTest(octets=octets):
                receiver = self.begun()
                self.refuse(receiver, BadTable, "take", octets, number=3)
                self.refuse(receiver, BadTable, "take", instructions_octets(BY, BY) + octets, number=5)
                self.goes_on(receiver, 1)

    def test_octets_that_cannot_be_read_in_pieces(self):
        for octets in self.UNREADABLE:
            receiver = self.begun()
            for octet in octets[:-1]:
                receiver.take([octet])
            with self.subTest(octets=octets):
                self.refuse(receiver, BadTable, "take", octets[-1:], number=3)
                self.refuse(receiver, BadTable, "take", octets[-1:] + BOTH, number=3)

    def test_instructions_that_cannot_be_carried_out(self):
        for instruction in self.UNDOABLE:
            octets = instructions_octets(instruction)
            with self.subTest(instruction=instruction):
                receiver = self.begun()
                self.refuse(receiver, BadTable, "take", octets, number=3)
                self.refuse(receiver, BadTable, "take", octets + BOTH, number=3)
                self.goes_on(receiver, 1)

    def test_instructions_that_cannot_be_carried_out_in_pieces(self):
        for instruction in self.UNDOABLE:
            octets = instructions_octets(instruction)
            receiver = self.begun()
            # It is not carried out, and raises no error, before its last octet is there.
            for octet in octets[:-1]:
                receiver.take([octet])
            with self.subTest(instruction=instruction):
                self.refuse(receiver, BadTable, "take", octets[-1:], number=3)

    def test_an_entry_that_is_too_great(self):
        receiver = Receiver(((), 12, 0))
        self.refuse(receiver, BadTable, "take", instructions_octets(("new", "a", "v" * 8)), number=0)
        receiver.take(instructions_octets(AX, ("limit", 6)))
        self.refuse(receiver, BadTable, "take", instructions_octets(("new", "a", "xy")), number=2)
        self.refuse(receiver, BadTable, "take", instructions_octets(("entry", 0, "xy")), number=2)
        self.goes_on(receiver, 1)

    def test_a_10000th_insertion(self):
        receiver = Receiver(((), 5, 0))
        receiver.take([65, 97, 0] + [0] * 9998)
        self.assertEqual(receiver.count(), 9999)
        self.refuse(receiver, BadTable, "take", [0], number=9999)
        receiver.take(instructions_octets(("limit", 0)))
        self.assertEqual(receiver.entries(), {})
        self.refuse(receiver, BadTable, "take", [65, 97, 0], number=10000)

    def test_instructions_ahead_in_the_same_piece_are_not_carried_out(self):
        receiver = self.begun()
        self.refuse(receiver, BadTable, "take", instructions_octets(BY, ("limit", 0), ("again", 0), BY), number=5)
        self.refuse(receiver, BadTable, "take", instructions_octets(BY, BY, BY) + [64], number=6)
        self.assertEqual(receiver.entries(), {0: ("a", "x")})
        self.goes_on(receiver, 1)

    def test_half_an_instruction_stays(self):
        octets = instructions_octets(BY)
        for at in range(1, len(octets)):
            receiver = self.begun()
            receiver.take(octets[:at])
            self.refuse(receiver, BadTable, "take", octets[at:] + [9], number=4)
            self.refuse(receiver, BadTable, "take", octets[at:] + octets[:2] + [255], number=4)
            self.refuse(receiver, NoOctetList, "take", tuple(octets[at:]))
            receiver.take(octets[at:])
            self.assertEqual(receiver.entries(), {0: ("a", "x"), 1: ("b", "y")})
            self.goes_on(receiver, 2)

    def test_the_number_counts_all_instructions_from_the_beginning(self):
        receiver = Receiver(SETTING)
        for number in range(40):
            self.refuse(receiver, BadTable, "take", [64], number=number)
            receiver.take(instructions_octets(("limit", number)))
        self.assertEqual(receiver.count(), 0)

    def test_bad_table_ahead_of_bad_block(self):
        receiver = Receiver(((), 120, 1))
        receiver.block(4, block(1, ("fixed", 0)))
        self.refuse(receiver, BadTable, "take", instructions_octets(AX, ("again", 1)), number=1)
        self.refuse(receiver, BadTable, "take", instructions_octets(AX) + [64], number=1)
        self.refuse(receiver, BadBlock, "take", instructions_octets(AX), stream=4)


class BadBlockTest(Refusing):
    def test_octets_that_are_no_block(self):
        receiver = Receiver(SETTING)
        receiver.take(BOTH)
        receiver.block(7, block(3))
        unreadable = [[], [0], [1, 2], [0, 0, 255], [0, 0, 128], [1, 0, 16], [0, 0, 33], [0, 0, 32], [0, 0, 33, 65],
                      [0, 0] + [192] * 17, [255], [255, 128], [1, 0, 64], [1, 0, 128, 1]]
        for octets in unreadable:
            for stream in (0, 7, 20):
                with self.subTest(octets=octets, stream=stream):
                    self.refuse(receiver, BadBlock, "block", stream, octets, stream=stream)
        self.goes_on(receiver, 2)

    def test_octets_that_are_no_block_ahead_of_too_many(self):
        receiver = Receiver(((), 120, 0))
        self.refuse(receiver, BadBlock, "block", 2, [1, 0, 64], stream=2)
        self.refuse(receiver, TooMany, "block", 2, [1, 0, 64, 0], stream=2)

    def test_a_fixed_field_that_there_is_not(self):
        receiver = Receiver(SETTING)
        for line in [("fixed", 2), ("fixed", 2, "v"), ("fixed", 9999)]:
            self.refuse(receiver, BadBlock, "block", 5, block(0, line), stream=5)
            self.refuse(receiver, BadBlock, "block", 5, block(0, ("fixed", 0), line), stream=5)
        receiver.take(BOTH)
        self.refuse(receiver, BadBlock, "block", 20, block(2, ("entry", 0), ("fixed", 2)), stream=20)
        self.goes_on(receiver, 2)

    def test_an_entry_that_is_not_in_the_table(self):
        receiver = Receiver(((), 6, 1))
        receiver.take(BOTH)
        for line in [("entry", 0), ("entry", 0, "v")]:
            self.refuse(receiver, BadBlock, "block", 0, block(1, line), stream=0)
            self.refuse(receiver, BadBlock, "block", 0, block(2, ("entry", 1), line), stream=0)
        receiver.block(0, block(2, ("entry", 1)))
        self.assertEqual(receiver.lists(), [(0, (("b", "y"),))])

    def test_by_take_in_one_piece(self):
        receiver = Receiver(((), 6, 1))
        receiver.block(9, block(1, ("entry", 0)))
        # What the piece brings is carried out ahead of the reading, so the entry has left then.
        self.refuse(receiver, BadBlock, "take", BOTH, stream=9)
        self.assertEqual((receiver.count(), receiver.waiting()), (0, (9,)))
        receiver.take(BOTH[:4])
        receiver.take(BOTH[4:])
        self.assertEqual(receiver.lists(), [(9, (("a", "x"),))])
        self.assertEqual(receiver.entries(), {1: ("b", "y")})

    def test_by_take_in_several_pieces(self):
        receiver = Receiver(SETTING)
        receiver.block(9, block(2, ("fixed", 2)))
        receiver.take(BOTH[:4])
        for octet in BOTH[4:-1]:
            receiver.take([octet])
        self.refuse(receiver, BadBlock, "take", BOTH[-1:], stream=9)
        self.refuse(receiver, BadBlock, "take", BOTH[-1:] + BOTH, stream=9)
        self.assertEqual((receiver.count(), receiver.waiting()), (1, (9,)))
        receiver.cancel(9)
        receiver.take(BOTH[-1:])
        self.goes_on(receiver, 2)

    def test_the_first_of_several_streams(self):
        receiver = Receiver(((), 120, 4))
        for stream, line in [(8, ("fixed", 0)), (3, ("fixed", 1)), (1, ("entry", 0)), (5, ("fixed", 2))]:
            receiver.block(stream, block(1, line))
        self.refuse(receiver, BadBlock, "take", BOTH, stream=3)
        receiver.cancel(3)
        self.refuse(receiver, BadBlock, "take", BOTH, stream=5)
        receiver.cancel(5)
        self.refuse(receiver, BadBlock, "take", BOTH, stream=8)
        receiver.cancel(8)
        receiver.take(BOTH)
        self.assertEqual(receiver.lists(), [(1, (("a", "x"),))])

    def test_a_block_behind_one_that_waits(self):
        receiver = Receiver(SETTING)
        receiver.block(4, block(1))
        receiver.block(4, block(0, ("fixed", 7)))
        self.assertEqual(receiver.lists(), [])
        self.refuse(receiver, BadBlock, "take", instructions_octets(AX), stream=4)

    def test_a_block_that_waits_is_not_judged_yet(self):
        receiver = Receiver(((), 120, 1))
        receiver.block(4, block(2, ("fixed", 7)))
        receiver.take(instructions_octets(AX))
        self.assertEqual(receiver.waiting(), (4,))
        receiver.cancel(4)
        receiver.take(instructions_octets(BY))
        self.assertEqual((receiver.count(), receiver.lists()), (2, []))


class TooManyTest(Refusing):
    def test_one_more_than_the_setting_says(self):
        for waiting in range(5):
            receiver = Receiver(((), 120, waiting))
            for stream in range(waiting):
                receiver.block(stream, block(1))
            self.refuse(receiver, TooMany, "block", 18, block(1), stream=18)
            self.refuse(receiver, TooMany, "block", 20, block(9999, ("entry", 0)), stream=20)
            # Streams that wait already, and blocks that need not wait, are none more.
            for stream in range(waiting):
                receiver.block(stream, block(5))
            receiver.block(18, block(0))
            self.assertEqual(receiver.waiting(), tuple(range(waiting)))
            self.refuse(receiver, TooMany, "block", 18, block(1), stream=18)

    def test_it_goes_on(self):
        receiver = Receiver(((), 120, 0))
        self.refuse(receiver, TooMany, "block", 3, write_block((1, 0, (("entry", 0),))), stream=3)
        receiver.take(instructions_octets(AX))
        receiver.block(3, write_block((1, 0, (("entry", 0),))))
        self.assertEqual(receiver.lists(), [(3, (("a", "x"),))])
        self.refuse(receiver, TooMany, "block", 3, block(2), stream=3)
        self.goes_on(receiver, 1)

    def test_a_stream_that_was_cancelled_does_not_wait(self):
        receiver = Receiver(((), 120, 0))
        receiver.cancel(3)
        receiver.block(3, block(1))
        self.assertEqual(receiver.waiting(), ())


if __name__ == "__main__":
    unittest.main()
