"""Makes events of logs for tests, and draws logs; all from a given random.Random, so each run is the same."""

from fieldtable.blocks import read_block, write_block
from fieldtable.errors import NoAnswer
from fieldtable.instructions import read_instruction, write_answer, write_instruction
from fieldtable.judging import judge
from tests import drawing
from tests.slow_reader import bad_place
from tests.slow_table import slow_says, slow_table


def table(*instruction):
    return ("table", write_instruction(instruction))


def block(stream, required, base, *lines):
    return ("block", stream, write_block((required, base, lines)))


def done(stream):
    return ("answer", write_answer(("done", stream)))


def received(n):
    return ("answer", write_answer(("received", n)))


def cancelled(stream):
    return ("answer", write_answer(("cancelled", stream)))


def drawn_block(chance, stream, count):
    """A block of which it is not sure that it can be read."""
    required = chance.choice([0, count, count, count, count, count + 1, chance.randint(0, count)])
    lines = []
    for _ in range(chance.choice([0, 1, 1, 1, 2])):
        kind = chance.choice(["entry", "entry", "entry", "fixed", "out"])
        if kind == "out":
            lines.append((kind,) + drawing.field(chance))
        elif kind == "fixed":
            lines.append((kind, chance.choice([0, 0, 0, 1])))
        elif required:
            lines.append((kind, max(required - chance.choice([1, 1, 2]), 0)) + chance.choice([(), ("x",)]))
    return block(stream, required, chance.randint(0, required), *lines)


def drawn_event(chance, streams, count):
    """An event of a log with so many insertions ahead of it, of which it is not sure that it is good."""
    kind = chance.choice(["table"] * 6 + ["block"] * 7 + ["answer"] * 4 + ["odd"])
    stream = chance.choice(streams)
    if kind == "table":
        return chance.choice([
            table("new", *drawing.field(chance)), table("new", "a", chance.choice(["", "x"])),
            table("again", chance.randrange(2)), table("entry", chance.randrange(2), "x"),
            table("limit", chance.choice([0, 5, 6, 10, 12, 20])), table("fixed", chance.choice([0, 0, 1]), "x"),
        ])
    if kind == "block":
        return drawn_block(chance, stream, count)
    if kind == "answer":
        return chance.choice([done(stream), done(stream), received(chance.randint(1, 2)), cancelled(stream)])
    octets = chance.choice([[], [255], [64], [0, 0], [128, 128], [1, 0, 128, 0], [65, 97, 1, 120, 0]])
    return chance.choice([("table", octets), ("block", stream, octets), ("answer", octets)])


def insertions(log):
    """How many of a log's events look like insertions."""
    return len([event for event in log if event[0] == "table" and event[1][:1] and not 32 <= event[1][0] < 64])


def drawn_setting(chance):
    """A setting in which entries leave soon, and few streams may wait."""
    fixed = chance.choice([(), (("h", "x"),)])
    return (fixed, chance.choice([5, 6, 10, 12, 12, 20, 60]), chance.choice([0, 1, 1, 2, 3]))


def drawn_log(chance, setting, length, streams, is_good):
    """A log of this length, or a shorter one if too many drawn events are not good; the last one need not be."""
    log = []
    for _ in range(60 * length):
        if len(log) == length:
            break
        more = log + [drawn_event(chance, streams, insertions(log))]
        if len(more) == length or is_good(setting, more):
            log = more
    return log


def verdict(setting, log):
    """What judge says without the order: ("good",), ("bad", event) or ("none", event)."""
    try:
        return judge(setting, log)[:2]
    except NoAnswer as error:
        return ("none", error.event)


def is_good(setting, log):
    return verdict(setting, log) == ("good",)


def written(setting, log):
    """The lists of fields that the blocks of a log say when they are sent, stream by stream, if they can be read."""
    found, instructions = {}, []
    for event in log:
        if event[0] == "table":
            instructions.append(read_instruction(event[1]))
        elif event[0] == "block" and bad_place("block", event[2]) is None:
            entries = slow_table(setting, instructions)[1]
            fields = slow_says(setting[0], entries, read_block(event[2])[2])
            found.setdefault(event[1], []).append(fields)
    return found
