"""The errors of the sender (point 12): each leaves everything as it was."""

import copy
import unittest

from fieldtable.blocks import read_block
from fieldtable.errors import BadAnswer, FieldError, Held, NoField, NoNumber, NoOctetList, NoSetting, NoStream, TooGreat
from fieldtable.senders import Sender
from tests.samples import NO_OCTETS, ODD_THINGS
from tests.slow_sender import sender_state
from tests.test_receiver_errors import NO_STREAMS
from tests.test_senders import AX, BY, CZ, SETTING, answers, sender_with

NO_FIELDS = [("a",), ("a", "x", ""), ["a", "x"], ("", "x"), ("A", "x"), ("a", "X"), ("a", "x" * 41), ("n" * 21, ""), (b"a", "x")]


class Refusing(unittest.TestCase):
    def state(self, sender):
        """What a sender shows, and what it would do next: which answers may be and which blocks it would send."""
        probe = copy.deepcopy(sender)
        blocks = [probe.block(stream, (AX, BY)) for stream in (1, 5)]
        oldest = []
        for octet in list(range(128, 149)) + list(range(64, 85)) + [1]:
            copied = copy.deepcopy(sender)
            try:
                copied.answer([octet])
                oldest.append(sender_state(copied))
            except BadAnswer:
                oldest.append(None)
        return sender_state(sender), blocks, oldest

    def refuse(self, sender, error, name, *arguments, **attributes):
        """The call raises just this error with these attributes, and nothing is changed by it."""
        before, said = self.state(sender), repr(arguments)
        for _ in range(2):
            with self.assertRaises(FieldError) as caught:
                getattr(sender, name)(*arguments)
            self.assertIs(type(caught.exception), error)
            self.assertEqual(vars(caught.exception), attributes)
        self.assertEqual(self.state(sender), before)
        self.assertEqual(repr(arguments), said)


class ArgumentsTest(Refusing):
    def test_no_setting(self):
        for thing in ODD_THINGS + [((), 121, 0), ((), -1, 0), ((), 0, 5), ((), 0, -1), ((), True, 0), ((), 0, True),
                                   [(), 0, 0], ([], 0, 0), ((("a", ""),) * 13, 0, 0), ((), 0), ((), 0, 0, 0)]:
            with self.subTest(thing=thing), self.assertRaises(FieldError) as caught:
                Sender(thing)
            self.assertIs(type(caught.exception), NoSetting)

    def test_no_field(self):
        sender = sender_with(SETTING, AX)
        for thing in ODD_THINGS + NO_FIELDS + [(AX,), [AX]]:
            with self.subTest(thing=thing):
                self.refuse(sender, NoField, "insert", thing)

    def test_no_list_of_fields(self):
        sender = sender_with(SETTING, AX)
        for thing in ODD_THINGS + NO_FIELDS + [(field,) for field in NO_FIELDS] + [AX, [AX], (AX,) * 17, (AX, None), {AX: 1}]:
            if thing != ():
                with self.subTest(thing=thing):
                    self.refuse(sender, NoField, "block", 3, thing)

    def test_no_stream(self):
        sender = sender_with(SETTING, AX)
        for thing in NO_STREAMS:
            with self.subTest(thing=thing):
                self.refuse(sender, NoStream, "block", thing, (AX,))
                self.refuse(sender, NoStream, "block", thing, None)

    def test_no_octets(self):
        sender = sender_with(SETTING, AX)
        sender.block(1, (AX,))
        for thing in NO_OCTETS:
            with self.subTest(thing=thing):
                self.refuse(sender, NoOctetList, "answer", thing)

    def test_no_number(self):
        sender = sender_with(((), 12, 0), AX, BY, CZ)
        for thing in [0, 3, 4, -1, 9999, 10 ** 20, -10 ** 20, True, False, None, 1.0, 2.0, "1", (1,), [1], {1: 1}, b"1"]:
            with self.subTest(thing=thing):
                self.refuse(sender, NoNumber, "again", thing)
        for thing in [-1, -10 ** 20, True, False, None, 1.0, "1", (1,), [1], {1: 1}, b"1"]:
            with self.subTest(thing=thing):
                self.refuse(sender, NoNumber, "limit", thing)
        self.refuse(Sender(SETTING), NoNumber, "again", 0)

    def test_true_is_no_number_of_an_entry(self):
        sender = sender_with(SETTING, AX, BY)
        self.refuse(sender, NoNumber, "again", True)
        self.refuse(sender, NoNumber, "again", False)


class TooGreatTest(Refusing):
    def test_an_entry_by_its_size(self):
        sender = Sender(((), 10, 1))
        self.refuse(sender, TooGreat, "insert", ("a", "123456"))
        sender.insert(("a", "12345"))
        self.refuse(sender, TooGreat, "insert", ("a", "123456"))
        sender.limit(7)
        self.refuse(sender, TooGreat, "insert", ("b", "yyy"))
        sender.insert(("b", "yy"))
        sender.limit(0)
        self.refuse(sender, TooGreat, "insert", ("b", ""))
        self.refuse(sender, NoNumber, "again", 1)

    def test_room_0(self):
        sender = Sender(((("a", ""),), 0, 4))
        self.refuse(sender, TooGreat, "insert", ("a", ""))
        self.refuse(sender, TooGreat, "limit", 1)
        self.assertEqual(sender.limit(0), [32])

    def test_a_limit_above_the_room(self):
        for room in (0, 1, 60, 120):
            sender = Sender(((), room, 1))
            for n in (room + 1, 9999, 10000, 10 ** 20):
                self.refuse(sender, TooGreat, "limit", n)
            sender.limit(0)
            self.refuse(sender, TooGreat, "limit", room + 1)
            sender.limit(room)

    def test_ahead_of_held(self):
        sender = sender_with(((), 12, 4), AX, BY)
        sender.block(0, (AX, BY))
        self.assertEqual(sender.held(), (0, 1))
        self.refuse(sender, Held, "insert", ("c", "1234567"))
        self.refuse(sender, TooGreat, "insert", ("c", "12345678"))
        self.refuse(sender, TooGreat, "limit", 13)
        self.refuse(sender, Held, "limit", 0)

    def test_behind_9999_insertions(self):
        sender = sender_with(((), 5, 4), ("a", ""))
        for number in range(9998):
            sender.again(number)
        sender.block(0, (("a", ""),) * 16)
        self.assertEqual(sender.held(), (9998,))
        self.refuse(sender, TooGreat, "insert", ("a", ""))
        self.refuse(sender, TooGreat, "again", 9998)
        self.refuse(sender, NoNumber, "again", 9997)
        self.refuse(sender, NoNumber, "again", 9999)
        self.refuse(sender, Held, "limit", 4)
        sender.answer(answers(("done", 0)))
        self.refuse(sender, TooGreat, "insert", ("a", ""))
        sender.limit(4)
        self.assertEqual((sender.known(), sender.entries()), (9999, {}))


class HeldTest(Refusing):
    def test_by_an_insertion(self):
        sender = sender_with(((), 12, 4), AX, BY)
        sender.block(3, (AX,))
        self.refuse(sender, Held, "insert", CZ)
        self.refuse(sender, Held, "insert", ("a", "q"))
        self.refuse(sender, Held, "insert", AX)
        self.refuse(sender, Held, "again", 0)
        self.refuse(sender, Held, "again", 1)
        sender.answer(answers(("done", 3)))
        sender.again(0)
        self.assertEqual(sender.entries(), {1: BY, 2: AX})

    def test_by_a_limit(self):
        sender = sender_with(((), 12, 4), AX, BY)
        sender.block(3, (BY,))
        self.assertEqual(sender.limit(11), [43])
        self.assertEqual(sender.limit(6), [38])
        self.refuse(sender, Held, "limit", 5)
        self.refuse(sender, Held, "limit", 0)
        sender.answer(answers(("cancelled", 3)))
        sender.limit(5)
        self.assertEqual(sender.entries(), {})

    def test_by_a_reference_to_a_name(self):
        sender = sender_with(((), 20, 4), ("name", "x"))
        sender.block(3, (("name", "other"),))
        self.assertEqual(sender.held(), (0,))
        self.refuse(sender, Held, "limit", 8)
        self.refuse(sender, Held, "insert", ("b", "1234567"))

    def test_only_for_held_entries(self):
        sender = sender_with(((), 18, 4), AX, BY, CZ)
        sender.block(3, (BY,))
        sender.insert(AX)
        self.refuse(sender, Held, "insert", CZ)
        self.refuse(sender, Held, "insert", ("c", "1234567"))
        self.assertEqual(sender.entries(), {1: BY, 2: CZ, 3: AX})

    def test_as_long_as_one_open_block_is_left(self):
        sender = sender_with(((), 6, 4), AX)
        for stream in (1, 1, 2):
            sender.block(stream, (AX,))
        for stream in (1, 2, 1):
            self.refuse(sender, Held, "insert", BY)
            sender.answer(answers(("done", stream)))
        sender.insert(BY)
        self.assertEqual(sender.entries(), {1: BY})

    def test_also_when_the_insertion_is_known(self):
        sender = sender_with(((), 6, 4), AX)
        sender.block(1, (AX,))
        sender.answer(answers(("received", 1)))
        self.refuse(sender, Held, "limit", 0)

    def test_a_block_that_refers_to_no_entry_holds_nothing(self):
        sender = sender_with(((), 12, 4), AX, BY)
        self.assertEqual(read_block(sender.block(1, (("q", "q"),)))[0], 0)
        sender.limit(0)
        self.assertEqual(sender.entries(), {})


class BadAnswerTest(Refusing):
    def sender(self):
        sender = sender_with(((), 120, 4), AX, BY, CZ)
        for stream, field in [(3, AX), (3, BY), (8, BY)]:
            sender.block(stream, (field,))
        return sender

    def test_answers_that_cannot_be_read(self):
        sender = self.sender()
        for octets in [[0], [63], [63, 128], [63, 128, 0], [85], [127], [149], [255], [255, 0]]:
            with self.subTest(octets=octets):
                self.refuse(sender, BadAnswer, "answer", octets, number=0)
                self.refuse(sender, BadAnswer, "answer", [131] + octets, number=1)
                self.refuse(sender, BadAnswer, "answer", [131, 1, 70] + octets, number=3)
        self.refuse(sender, BadAnswer, "answer", [0, 131], number=0)

    def test_done_without_an_open_block(self):
        sender = self.sender()
        for stream in (0, 2, 4, 20):
            self.refuse(sender, BadAnswer, "answer", answers(("done", stream)), number=0)
        self.refuse(sender, BadAnswer, "answer", [136, 136], number=1)
        self.refuse(sender, BadAnswer, "answer", [131, 131, 131], number=2)
        self.refuse(sender, BadAnswer, "answer", [67, 131], number=1)
        sender.block(2, (("q", ""),))
        self.refuse(sender, BadAnswer, "answer", [130], number=0)

    def test_more_received_than_there_is(self):
        sender = self.sender()
        self.refuse(sender, BadAnswer, "answer", [4], number=0)
        self.refuse(sender, BadAnswer, "answer", answers(("received", 9999)), number=0)
        self.refuse(sender, BadAnswer, "answer", [1, 1, 2], number=2)
        self.refuse(sender, BadAnswer, "answer", [131, 3], number=1)
        self.refuse(sender, BadAnswer, "answer", [131, 131, 2], number=2)
        sender.answer([3])
        self.refuse(sender, BadAnswer, "answer", [1], number=0)
        self.refuse(Sender(SETTING), BadAnswer, "answer", [1], number=0)

    def test_cancelled_twice(self):
        sender = self.sender()
        self.refuse(sender, BadAnswer, "answer", [70, 70], number=1)
        sender.answer([67, 70])
        self.refuse(sender, BadAnswer, "answer", [67], number=0)
        self.refuse(sender, BadAnswer, "answer", [70], number=0)
        sender.block(6, (AX,))
        self.refuse(sender, BadAnswer, "answer", [70], number=0)

    def test_none_of_several_counts(self):
        sender = self.sender()
        self.refuse(sender, BadAnswer, "answer", [131, 131, 136, 64, 2], number=4)
        self.refuse(sender, BadAnswer, "answer", [2, 67, 72, 1, 67], number=4)
        self.refuse(sender, BadAnswer, "answer", [131, 131, 136, 64, 1, 63], number=5)
        sender.answer([131, 131, 136, 64, 1])
        self.assertEqual(sender_state(sender)[:3], ((), (), 3))

    def test_the_first_of_several(self):
        sender = self.sender()
        self.refuse(sender, BadAnswer, "answer", [131, 132, 9, 0], number=1)
        self.refuse(sender, BadAnswer, "answer", [0, 132], number=0)


if __name__ == "__main__":
    unittest.main()
