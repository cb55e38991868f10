"""A slow receiver for tests: it keeps the calls that raised no error, and goes through all of them anew for each."""

from fieldtable.blocks import read_block
from fieldtable.errors import BadBlock, BadTable, NoNumber, NoStream, TooMany
from fieldtable.instructions import read_instruction, write_answer
from tests.slow_reader import bad_place
from tests.slow_table import slow_says, slow_table


class Replay:
    """What there is behind some calls."""

    def __init__(self, setting):
        self.setting = setting
        self.octets = []
        self.instructions = []
        self.unread = []
        self.lists = []
        self.made = []
        self.asked = 0
        self.told = 0
        self.cancelled = []

    def table(self):
        return slow_table(self.setting, self.instructions)

    def do(self, name, *arguments):
        result = getattr(self, "do_" + name)(*arguments)
        if name in ("take", "block"):
            for stream in range(21):
                self.read(stream)
            if name == "block" and len(self.waiting()) > self.setting[2]:
                raise TooMany(arguments[0])
        return result

    def do_take(self, octets):
        for octet in octets:
            self.octets.append(octet)
            place = bad_place("instruction", self.octets)
            if place is None:
                self.instructions.append(read_instruction(self.octets))
                self.octets = []
                if self.table()[3] is not None:
                    raise BadTable(len(self.instructions) - 1)
            elif place < len(self.octets):
                raise BadTable(len(self.instructions))

    def do_block(self, stream, octets):
        if stream not in self.cancelled:
            if bad_place("block", octets) is not None:
                raise BadBlock(stream)
            self.unread.append((stream, read_block(octets)))

    def do_tell(self, n):
        if not 1 <= n <= self.table()[0] - self.told:
            raise NoNumber("")
        self.told += n
        self.made.append(("received", n))

    def do_cancel(self, stream):
        if stream in self.cancelled:
            raise NoStream("")
        self.cancelled.append(stream)
        self.unread = [pair for pair in self.unread if pair[0] != stream]
        self.made.append(("cancelled", stream))

    def do_answers(self):
        fresh = self.made[self.asked:]
        self.asked = len(self.made)
        return [octet for answer in fresh for octet in write_answer(answer)]

    def read(self, stream):
        while stream in self.waiting():
            at = [other for other, _ in self.unread].index(stream)
            required, _, lines = self.unread[at][1]
            count, entries = self.table()[:2]
            if required > count:
                return
            fields = slow_says(self.setting[0], entries, lines)
            if fields is None:
                raise BadBlock(stream)
            del self.unread[at]
            self.lists.append((stream, fields))
            if required:
                self.told = max(self.told, required)
                self.made.append(("done", stream))

    def waiting(self):
        return tuple(sorted({stream for stream, _ in self.unread}))


class SlowReceiver:
    def __init__(self, setting):
        self.setting = setting
        self.calls = []

    def replay(self, calls):
        replay = Replay(self.setting)
        result = None
        for call in calls:
            result = replay.do(*call)
        return replay, result

    def call(self, *call):
        _, result = self.replay(self.calls + [call])
        self.calls.append(call)
        return result

    def state(self):
        """(lists, waiting, count, entries, insertions that are not told, octets of the answers to come)"""
        replay, _ = self.replay(self.calls)
        count, entries = replay.table()[:2]
        return replay.lists, replay.waiting(), count, entries, count - replay.told, replay.do_answers()


def untold(receiver, copied):
    """How many insertions a receiver lets one tell, found by trying."""
    n = 0
    while True:
        try:
            copied(receiver).tell(n + 1)
        except NoNumber:
            return n
        n += 1


def state_of(receiver, copied):
    """What a receiver shows, in the form of SlowReceiver.state, without changing it."""
    return (
        receiver.lists(), receiver.waiting(), receiver.count(), receiver.entries(),
        untold(receiver, copied), copied(receiver).answers(),
    )
