"""Orders that are made up step by step."""

from fieldtable.blocks import read_block
from fieldtable.instructions import read_answer
from fieldtable.orders import World


def blocks_last(setting, log, many):
    """An order for so many first events in which all instructions arrive, and then all blocks."""
    play = Play(setting, log)
    play.send_first(many)
    play.carry_tables()
    play.carry_blocks()
    return play.order


def blocks_early(setting, log, many):
    """An order for so many first events in which all blocks arrive, and of the table only what answers need."""
    play = Play(setting, log)
    play.send_first(many)
    play.carry_blocks()
    return play.order


class Play:
    """A world, and the order of the steps that were taken in it up to the first error."""

    def __init__(self, setting, log):
        self.world = World(setting, log)
        self.order = []

    def step(self, step):
        """Take a step that can be taken, unless an error was raised."""
        if not self.world.broken:
            self.world.take_step(step)
            self.order.append(step)

    def send_first(self, many):
        """Let so many first events take place, and only that arrive which answers need.

        So the sender knows of each insertion that arrived, and of each block with a required other than 0 that did.
        """
        for event in self.world.events[:many]:
            if event[0] == "answer":
                self.bring_about(read_answer(event[1]))
            self.step(("send",))

    def bring_about(self, answer):
        """Let the receiver make an answer."""
        kind, number = answer
        if kind == "cancelled":
            self.step(("cancel", number))
        elif kind == "received":
            self.insert_up_to(self.world.receiver.told + number)
            self.step(("tell", number))
        else:
            self.finish_block(number)

    def finish_block(self, stream):
        """Let the next block of a stream for which an answer is made arrive, and be read."""
        required = 0
        while required == 0:
            required = read_block(self.world.blocks[stream][0])[0]
            self.insert_up_to(required)
            self.step(("block", stream))

    def insert_up_to(self, count):
        """Let instructions arrive until there are so many insertions."""
        while self.world.receiver.count() < count:
            self.step(("table",))

    def carry_tables(self):
        """Let all instructions under way arrive."""
        for _ in range(len(self.world.instructions)):
            self.step(("table",))

    def carry_blocks(self):
        """Let all blocks under way arrive."""
        for stream in sorted(self.world.blocks):
            for _ in range(len(self.world.blocks[stream])):
                self.step(("block", stream))
