"""The sender of a table's stream and of blocks on many streams."""

from fieldtable.blocks import write_block
from fieldtable.errors import BadAnswer, Held, NoField, NoNumber, NoOctets, TooGreat
from fieldtable.instructions import take_answer, write_instruction
from fieldtable.octets import Reader, are_fields, check_octets, check_setting, check_stream, is_field, is_number
from fieldtable.shortest import shortest_block
from fieldtable.tables import Table, entry_size


class Sender:
    """Fills its table by instructions, and writes lists of fields as blocks that refer to it."""

    def __init__(self, setting):
        check_setting(setting)
        self.table = Table(setting)
        self.waiting_most = setting[2]
        self.account = Account()

    def copied(self):
        """A sender like this one, to which changes of this one mean nothing."""
        sender = Sender(self.table.setting)
        sender.table = self.table.copied()
        sender.account = self.account.copied()
        return sender

    def insert(self, field):
        """Insert a field, by a shortest instruction."""
        if not is_field(field):
            raise NoField("this is no field")
        return self.send_insertion(shortest_insertion(self.table, field), field)

    def again(self, number):
        """Insert a field equal to an entry."""
        if not is_number(number) or number not in self.table.kept:
            raise NoNumber("there is no such entry")
        return self.send_insertion(("again", self.table.made - 1 - number), self.table.kept[number])

    def limit(self, n):
        """Set the limit of the table."""
        if not isinstance(n, int) or isinstance(n, bool) or n < 0:
            raise NoNumber("a limit is an integer from 0 on")
        if n > self.table.setting[1]:
            raise TooGreat("a limit is at most the room")
        self.check_held(self.table.leaving(n, 0))
        self.table.set_bound(n)
        return write_instruction(("limit", n))

    def send_insertion(self, instruction, field):
        """Carry out an instruction that inserts this field, and return its octets."""
        if not self.table.has_room(field):
            raise TooGreat("this entry cannot be inserted")
        self.check_held(self.table.leaving(self.table.bound, entry_size(field)))
        self.table.carry_out(instruction)
        return write_instruction(instruction)

    def check_held(self, numbers):
        """Raise Held if one of these entries is held."""
        held = self.account.held_numbers()
        if any([number in held for number in numbers]):
            raise Held("an open block refers to an entry that would leave")

    def block(self, stream, fields):
        """Write a list of fields as a block of a stream, a shortest one of those that may be sent."""
        check_stream(stream)
        if not are_fields(fields):
            raise NoField("this is no list of fields")
        most = self.required_most(stream)
        entries = {number: field for number, field in self.table.kept.items() if number < most}
        block = shortest_block(self.table.setting[0], entries, fields)
        self.account.send(stream, block)
        return write_block(block)

    def required_most(self, stream):
        """The most that a block on a stream may require now."""
        if stream in self.account.cancelled:
            return 0
        streams = self.account.waiting_streams()
        if stream in streams or len(streams) < self.waiting_most:
            return self.table.made
        return self.account.heard

    def answer(self, octets):
        """Take the octets of whole answers."""
        check_octets(octets)
        account = self.account.copied()
        reader = Reader(octets)
        number = 0
        while not reader.at_end():
            if not account.hear(next_answer(reader, number), self.table.made):
                raise BadAnswer(number)
            number += 1
        self.account = account

    def held(self):
        """The numbers of the entries that are held."""
        return tuple(self.account.held_numbers())

    def may_wait(self):
        """The streams that may wait."""
        return tuple(self.account.waiting_streams())

    def known(self):
        """The number of insertions known."""
        return self.account.heard

    def count(self):
        """The number of insertions so far."""
        return self.table.made

    def entries(self):
        """The entries of the table by their numbers."""
        return dict(self.table.kept)


class Account:
    """What a sender keeps of its blocks and of the answers to them."""

    def __init__(self):
        # For each stream the open blocks, the oldest first: what each requires, and the entries it refers to.
        self.opened = {}
        self.heard = 0
        self.cancelled = {}

    def copied(self):
        """An account like this one, to which changes of this one mean nothing."""
        account = Account()
        account.opened = {stream: list(self.opened[stream]) for stream in self.opened}
        account.heard = self.heard
        account.cancelled = dict(self.cancelled)
        return account

    def send(self, stream, block):
        """Note a block that is sent."""
        required, _, lines = block
        if required == 0:
            return
        if stream not in self.opened:
            self.opened[stream] = []
        self.opened[stream].append((required, [line[1] for line in lines if line[0] == "entry"]))

    def hear(self, answer, made):
        """Note an answer when so many insertions were made, or return False if it cannot be."""
        kind, number = answer
        if kind == "received":
            return self.hear_received(number, made)
        if kind == "done":
            return self.hear_done(number)
        return self.hear_cancelled(number)

    def hear_received(self, n, made):
        """Note that n more insertions are known, or return False if there are not as many."""
        if n > made - self.heard:
            return False
        self.heard += n
        return True

    def hear_done(self, stream):
        """Note that a stream's oldest open block is done, or return False if there is none."""
        if stream not in self.opened:
            return False
        required, _ = self.opened[stream][0]
        self.heard = max(self.heard, required)
        del self.opened[stream][0]
        if not self.opened[stream]:
            del self.opened[stream]
        return True

    def hear_cancelled(self, stream):
        """Note that a stream was cancelled, or return False if it was before."""
        if stream in self.cancelled:
            return False
        self.cancelled[stream] = True
        if stream in self.opened:
            del self.opened[stream]
        return True

    def held_numbers(self):
        """The ascending numbers of the entries to which an open block refers."""
        held = {}
        for blocks in self.opened.values():
            for _, numbers in blocks:
                for number in numbers:
                    held[number] = True
        return sorted(held)

    def waiting_streams(self):
        """The ascending streams that have an open block with a required greater than what is known."""
        return [stream for stream in sorted(self.opened) if self.requires_more(stream)]

    def requires_more(self, stream):
        """Whether an open block of this stream requires more than is known."""
        return any([required > self.heard for required, _ in self.opened[stream]])


def next_answer(reader, number):
    """The next answer that can be read, the one with this number."""
    try:
        return take_answer(reader)
    except NoOctets:
        raise BadAnswer(number) from None


def shortest_insertion(table, field):
    """A shortest instruction that inserts this field into the table."""
    return min(insertions(table, field), key=lambda instruction: len(write_instruction(instruction)))


def insertions(table, field):
    """All instructions that insert this field into the table."""
    name, value = field
    found = [("new", name, value)]
    for number, other in enumerate(table.setting[0]):
        if other[0] == name:
            found.append(("fixed", number, value))
    for number, other in table.kept.items():
        if other == field:
            found.append(("again", table.made - 1 - number))
        elif other[0] == name:
            found.append(("entry", table.made - 1 - number, value))
    return found
