"""A sender and a receiver for tests, with the same calls as a wire: each mark keeps a copy of everything."""

import copy

from fieldtable.errors import NoNumber, NoStream
from fieldtable.instructions import read_answer
from fieldtable.receivers import Receiver
from fieldtable.senders import Sender
from tests.slow_reader import bad_place


class Ends:
    def __init__(self, setting):
        self.sender = Sender(setting)
        self.receiver = Receiver(setting)
        self.octets = []
        self.blocks = []
        self.events = []


class BothEnds:
    def __init__(self, setting):
        self.ends = Ends(setting)
        self.marks = []

    def send_table(self, octets):
        self.ends.octets += octets
        self.ends.events.append(("table", octets))

    def insert(self, field):
        self.send_table(self.ends.sender.insert(field))

    def again(self, number):
        self.send_table(self.ends.sender.again(number))

    def limit(self, n):
        self.send_table(self.ends.sender.limit(n))

    def block(self, stream, fields):
        octets = self.ends.sender.block(stream, fields)
        self.ends.blocks.append((stream, octets))
        self.ends.events.append(("block", stream, octets))

    def carry_table(self, n):
        if type(n) is not int or not 0 <= n <= len(self.ends.octets):
            raise NoNumber("")
        self.ends.receiver.take(self.ends.octets[:n])
        self.ends.octets = self.ends.octets[n:]

    def carry_block(self, stream):
        found = [pair for pair in self.ends.blocks if pair[0] == stream and type(stream) is int]
        if not found:
            raise NoStream("")
        self.ends.receiver.block(*found[0])
        self.ends.blocks.remove(found[0])

    def carry_answers(self):
        octets = self.ends.receiver.answers()
        self.ends.sender.answer(octets)
        rest = []
        for octet in octets:
            rest.append(octet)
            if bad_place("answer", rest) is None:
                assert read_answer(rest)
                self.ends.events.append(("answer", rest))
                rest = []
        assert rest == []

    def tell(self, n):
        self.ends.receiver.tell(n)

    def cancel(self, stream):
        self.ends.receiver.cancel(stream)

    def lists(self):
        return self.ends.receiver.lists()

    def waiting(self):
        return self.ends.receiver.waiting()

    def held(self):
        return self.ends.sender.held()

    def may_wait(self):
        return self.ends.sender.may_wait()

    def log(self):
        return copy.deepcopy(self.ends.events)

    def mark(self):
        self.marks.append(copy.deepcopy(self.ends))
        return len(self.marks) - 1

    def back(self, number):
        if type(number) is not int or not 0 <= number < len(self.marks):
            raise NoNumber("")
        self.ends = copy.deepcopy(self.marks[number])
        self.marks = self.marks[:number + 1]


SHOWS = ["lists", "waiting", "held", "may_wait", "log"]


def shown(wire):
    """What a wire shows."""
    return tuple(getattr(wire, name)() for name in SHOWS)


def outcome(wire, name, *arguments):
    """What a call returns, or the class of its error."""
    try:
        return getattr(wire, name)(*arguments)
    except ValueError as error:
        return type(error)


def under_way(wire):
    """What is under way, and how many marks stand, found on a copy: what is shown behind each octet and block."""
    rows = []
    probe = copy.deepcopy(wire)
    while outcome(probe, "carry_table", 1) is None:
        rows.append((probe.lists(), probe.waiting()))
    for stream in range(21):
        while outcome(probe, "carry_block", stream) is None:
            rows.append((probe.lists(), probe.waiting()))
    probe.carry_answers()
    return rows, shown(probe), outcome(probe, "tell", 1), probe.mark()
