"""A sender and a receiver with what is under way between them."""

from fieldtable.errors import NoNumber, NoStream
from fieldtable.instructions import take_answer
from fieldtable.octets import Reader, is_between, is_stream
from fieldtable.receivers import Receiver
from fieldtable.senders import Sender


class Wire:
    """Lets one end do something or something arrive at the other end, and returns to marks."""

    def __init__(self, setting):
        self.ends = Ends(Sender(setting), Receiver(setting))
        self.marks = []

    def insert(self, field):
        """Let the sender insert a field."""
        self.ends.send_table(self.ends.sender.insert(field))

    def again(self, number):
        """Let the sender insert a field equal to an entry."""
        self.ends.send_table(self.ends.sender.again(number))

    def limit(self, n):
        """Let the sender set the limit of the table."""
        self.ends.send_table(self.ends.sender.limit(n))

    def block(self, stream, fields):
        """Let the sender write a list of fields on a stream."""
        self.ends.send_block(stream, self.ends.sender.block(stream, fields))

    def carry_table(self, n):
        """Let the next octets of the table's stream arrive, so many."""
        if not is_between(n, 0, len(self.ends.octets)):
            raise NoNumber("there are not as many octets under way")
        self.ends.receiver.take(self.ends.octets[:n])
        self.ends.drop_octets(n)

    def carry_block(self, stream):
        """Let the next block of a stream arrive."""
        if not is_stream(stream) or stream not in self.ends.blocks:
            raise NoStream("no block of this stream is under way")
        self.ends.receiver.block(stream, self.ends.blocks[stream][0])
        self.ends.drop_block(stream)

    def carry_answers(self):
        """Let all answers that the receiver made arrive."""
        for octets in single_answers(self.ends.receiver.answers()):
            self.ends.sender.answer(octets)
            self.ends.events.append(("answer", octets))

    def tell(self, n):
        """Let the receiver tell of so many more insertions."""
        self.ends.receiver.tell(n)

    def cancel(self, stream):
        """Let the receiver cancel a stream."""
        self.ends.receiver.cancel(stream)

    def lists(self):
        """All that the receiver read, as (stream, list of fields) each."""
        return self.ends.receiver.lists()

    def waiting(self):
        """The streams that wait at the receiver."""
        return self.ends.receiver.waiting()

    def held(self):
        """The numbers of the sender's entries that are held."""
        return self.ends.sender.held()

    def may_wait(self):
        """The streams that may wait, as far as the sender knows."""
        return self.ends.sender.may_wait()

    def log(self):
        """The log so far."""
        return [event[:-1] + (list(event[-1]),) for event in self.ends.events]

    def mark(self):
        """Make a mark, and return its number."""
        self.marks.append(self.ends.copied())
        return len(self.marks) - 1

    def back(self, number):
        """Return to what was there when a mark was made."""
        if not is_between(number, 0, len(self.marks) - 1):
            raise NoNumber("there is no such mark")
        self.ends = self.marks[number].copied()
        del self.marks[number + 1:]


class Ends:
    """A sender and a receiver, what is under way from the one to the other, and the sender's log."""

    def __init__(self, sender, receiver):
        self.sender = sender
        self.receiver = receiver
        self.octets = []
        self.blocks = {}
        self.events = []

    def copied(self):
        """Ends like these, to which changes of these mean nothing."""
        ends = Ends(self.sender.copied(), self.receiver.copied())
        ends.octets = list(self.octets)
        ends.blocks = {stream: list(self.blocks[stream]) for stream in self.blocks}
        ends.events = list(self.events)
        return ends

    def send_table(self, octets):
        """Put an instruction under way."""
        self.octets.extend(octets)
        self.events.append(("table", octets))

    def send_block(self, stream, octets):
        """Put a block under way."""
        self.blocks[stream] = self.blocks.get(stream, []) + [octets]
        self.events.append(("block", stream, octets))

    def drop_octets(self, n):
        """Forget the next octets of the table's stream, which have arrived."""
        del self.octets[:n]

    def drop_block(self, stream):
        """Forget the next block of a stream, which has arrived."""
        del self.blocks[stream][0]
        if not self.blocks[stream]:
            del self.blocks[stream]


def single_answers(octets):
    """The octets of each of the answers that these are."""
    reader = Reader(octets)
    found = []
    while not reader.at_end():
        start = reader.place
        take_answer(reader)
        found.append(octets[start:reader.place])
    return found
