"""Logs of what was sent, and orders in which it arrives at a receiver."""

from fieldtable.errors import BadBlock, BadOrder, BadTable, NoLog, NoNumber, NoOctets, NoStream, TooMany
from fieldtable.instructions import read_answer, read_instruction
from fieldtable.octets import are_octets, check_setting, is_stream
from fieldtable.receivers import Receiver

EVENTS_MOST = 40


def is_event(thing):
    """Whether this is an event of a log."""
    if not isinstance(thing, tuple) or len(thing) not in (2, 3):
        return False
    if len(thing) == 2:
        return thing[0] in ("table", "answer") and are_octets(thing[1])
    return thing[0] == "block" and is_stream(thing[1]) and are_octets(thing[2])


def is_log(thing):
    """Whether this is a log, a list of events."""
    if not isinstance(thing, list) or len(thing) > EVENTS_MOST:
        return False
    return all([is_event(event) for event in thing])


def check_log(log):
    """Raise NoLog for what is no log."""
    if not is_log(log):
        raise NoLog("a log is a list of up to 40 events")


def is_step(thing):
    """Whether this is a step of an order; not every step can be taken."""
    if not isinstance(thing, tuple) or len(thing) not in (1, 2):
        return False
    if len(thing) == 1:
        return thing[0] in ("send", "table")
    # What is no number to tell is found by the receiver.
    return thing[0] == "tell" or (thing[0] in ("block", "cancel") and is_stream(thing[1]))


def run_order(setting, log, order):
    """(lists, waiting, count) of the receiver behind an order, or None if its last step raises an error."""
    world = played(setting, log, order)
    if world.broken:
        return None
    return (world.receiver.lists(), world.receiver.waiting(), world.receiver.count())


def fails(setting, log, order):
    """Whether an order raises an error of the receiver, or leaves streams waiting for what never comes."""
    world = played(setting, log, order)
    return world.broken or (world.all_arrived() and len(world.receiver.waiting()) > 0)


def played(setting, log, order):
    """The world behind an order."""
    check_setting(setting)
    check_log(log)
    if not isinstance(order, list):
        raise BadOrder(0)
    world = World(setting, log)
    for number, step in enumerate(order):
        if not world.take_step(step):
            raise BadOrder(number)
    return world


class World:
    """A receiver, and what of a log is under way to it or from it."""

    def __init__(self, setting, log):
        self.receiver = Receiver(setting)
        self.events = log
        self.sent = 0
        self.instructions = []
        self.blocks = {}
        self.unheard = []
        self.broken = False

    def take_step(self, step):
        """Take a step, or return False if this is none or cannot be taken."""
        if self.broken or not is_step(step):
            return False
        try:
            return self.take_kind(step)
        except (BadBlock, BadTable, TooMany):
            self.broken = True
            return True

    def take_kind(self, step):
        """Take a step by its kind, or return False if it cannot be taken."""
        kind = step[0]
        if kind == "send":
            return self.send()
        if kind == "table":
            return self.carry_table()
        if kind == "block":
            return self.carry_block(step[1])
        if kind == "tell":
            return self.tell(step[1])
        return self.cancel(step[1])

    def send(self):
        """Let the next event take place, or return False if it cannot."""
        if self.sent == len(self.events):
            return False
        event = self.events[self.sent]
        if event[0] == "answer":
            if not self.hear(event[1]):
                return False
        elif event[0] == "table":
            self.instructions.append(event[1])
        else:
            self.blocks[event[1]] = self.blocks.get(event[1], []) + [event[2]]
        self.sent += 1
        return True

    def hear(self, octets):
        """Let the next answer that the receiver made arrive, or return False if these octets are not just it."""
        self.unheard.extend(self.receiver.answers())
        length = len(octets)
        if not is_one_answer(octets) or self.unheard[:length] != octets:
            return False
        del self.unheard[:length]
        return True

    def carry_table(self):
        """Let the next instruction under way arrive, or return False if there is none."""
        if not self.instructions:
            return False
        octets = self.instructions[0]
        del self.instructions[0]
        if not is_one_instruction(octets):
            raise BadTable(self.receiver.carried)
        self.receiver.take(octets)
        return True

    def carry_block(self, stream):
        """Let the next block of a stream under way arrive, or return False if there is none."""
        if stream not in self.blocks:
            return False
        octets = self.blocks[stream][0]
        del self.blocks[stream][0]
        if not self.blocks[stream]:
            del self.blocks[stream]
        self.receiver.block(stream, octets)
        return True

    def tell(self, n):
        """Let the receiver tell of insertions, or return False if it cannot."""
        try:
            self.receiver.tell(n)
        except NoNumber:
            return False
        return True

    def cancel(self, stream):
        """Let the receiver cancel a stream, or return False if it cannot."""
        try:
            self.receiver.cancel(stream)
        except NoStream:
            return False
        return True

    def all_arrived(self):
        """Whether all that was sent has arrived."""
        return not self.instructions and not self.blocks


def is_one_instruction(octets):
    """Whether these are the octets of just one instruction."""
    try:
        read_instruction(octets)
    except NoOctets:
        return False
    return True


def is_one_answer(octets):
    """Whether these are the octets of just one answer."""
    try:
        read_answer(octets)
    except NoOctets:
        return False
    return True
