"""The receiver of a table's stream and of blocks on many streams."""

from fieldtable.blocks import read_block
from fieldtable.errors import BadBlock, BadTable, NoNumber, NoOctets, NoStream, TooMany
from fieldtable.instructions import take_instruction, write_answer
from fieldtable.octets import Reader, check_octets, check_setting, check_stream, is_between
from fieldtable.tables import Table, said_fields


class Receiver:
    """Carries out the instructions for its table, and reads the blocks of streams as soon as it can."""

    def __init__(self, setting):
        check_setting(setting)
        self.table = Table(setting)
        self.waiting_most = setting[2]
        self.begun = []
        self.carried = 0
        self.queues = {}
        self.lists_read = []
        self.told = 0
        self.cancelled = {}
        self.unsent = []

    def copied(self):
        """A receiver like this one, to which changes of this one mean nothing."""
        receiver = Receiver(self.table.setting)
        receiver.table = self.table.copied()
        receiver.begun = list(self.begun)
        receiver.carried = self.carried
        receiver.queues = {stream: list(self.queues[stream]) for stream in self.queues}
        receiver.lists_read = list(self.lists_read)
        receiver.told = self.told
        receiver.cancelled = dict(self.cancelled)
        receiver.unsent = list(self.unsent)
        return receiver

    def take(self, octets):
        """Take the next octets of the table's stream."""
        check_octets(octets)
        table = self.table.copied()
        begun, carried = carry_out_all(table, self.begun + octets, self.carried)
        readings = all_readings(table, self.queues)
        self.table = table
        self.begun = begun
        self.carried = carried
        for stream, required, fields in readings:
            self.leave_queue(stream)
            self.finish(stream, required, fields)

    def block(self, stream, octets):
        """Take the next block of a stream."""
        check_stream(stream)
        check_octets(octets)
        if stream in self.cancelled:
            return
        block = checked_block(stream, octets)
        if stream in self.queues:
            self.queues[stream].append(block)
        elif block[0] <= self.table.made:
            self.finish(stream, block[0], reading(self.table, stream, block))
        elif len(self.queues) < self.waiting_most:
            self.queues[stream] = [block]
        else:
            raise TooMany(stream)

    def leave_queue(self, stream):
        """Take the first block of a stream that waits out of its queue."""
        del self.queues[stream][0]
        if not self.queues[stream]:
            del self.queues[stream]

    def finish(self, stream, required, fields):
        """Note that a block with this required was read."""
        self.lists_read.append((stream, fields))
        if required > 0:
            self.told = max(self.told, required)
            self.unsent.extend(write_answer(("done", stream)))

    def tell(self, n):
        """Tell the sender of so many more insertions."""
        if not is_between(n, 1, self.table.made - self.told):
            raise NoNumber("there are not as many insertions to tell")
        self.told += n
        self.unsent.extend(write_answer(("received", n)))

    def cancel(self, stream):
        """Ignore a stream from now on."""
        check_stream(stream)
        if stream in self.cancelled:
            raise NoStream("this stream was cancelled")
        self.cancelled[stream] = True
        if stream in self.queues:
            del self.queues[stream]
        self.unsent.extend(write_answer(("cancelled", stream)))

    def lists(self):
        """All that was read, as (stream, list of fields) each."""
        return list(self.lists_read)

    def answers(self):
        """The octets of the answers that were made since the last call."""
        octets = self.unsent
        self.unsent = []
        return octets

    def waiting(self):
        """The streams that wait."""
        return tuple(sorted(self.queues))

    def count(self):
        """The number of insertions so far."""
        return self.table.made

    def entries(self):
        """The entries of the table by their numbers."""
        return dict(self.table.kept)


def carry_out_all(table, octets, number):
    """Carry out all whole instructions, from this number on; return the octets left and the next number."""
    reader = Reader(octets)
    while not reader.at_end():
        start = reader.place
        try:
            instruction = take_instruction(reader)
        except NoOctets as error:
            if error.place < len(octets):
                raise BadTable(number) from None
            return (octets[start:], number)
        if not table.carry_out(instruction):
            raise BadTable(number)
        number += 1
    return ([], number)


def checked_block(stream, octets):
    """The block that these octets of a stream write."""
    try:
        return read_block(octets)
    except NoOctets:
        raise BadBlock(stream) from None


def all_readings(table, queues):
    """What can be read of the blocks that wait, as (stream, required, list of fields) each."""
    readings = []
    for stream in sorted(queues):
        for block in queues[stream]:
            # A block that has to wait keeps those behind it waiting.
            if block[0] > table.made:
                break
            readings.append((stream, block[0], reading(table, stream, block)))
    return readings


def reading(table, stream, block):
    """The list of fields that a block of a stream is with this table."""
    fields = said_fields(table.setting[0], table.kept, block[2])
    if fields is None:
        raise BadBlock(stream)
    return fields
