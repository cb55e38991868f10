"""A slow search for tests: the shortest among all blocks that say a list of fields."""

from itertools import product

from fieldtable.blocks import read_block, write_block
from tests.slow_table import slow_says


def all_lines(fixed, entries, field):
    """All lines that say this field."""
    name, value = field
    lines = [("fixed", number) for number in range(len(fixed))]
    lines += [("fixed", number, value) for number in range(len(fixed))]
    lines += [("entry", number) for number in entries]
    lines += [("entry", number, value) for number in entries]
    lines.append(("out", name, value))
    return [line for line in lines if slow_says(fixed, entries, [line]) == (field,)]


def fitting(lines, required):
    return [line for line in lines if line[0] != "entry" or line[1] < required]


def fewest_of_all_blocks(fixed, entries, fields, required, base):
    """The fewest octets among all blocks with this required and base that say the fields."""
    choices = [fitting(all_lines(fixed, entries, field), required) for field in fields]
    return min(len(write_block((required, base, lines))) for lines in product(*choices))


def fewest_line_by_line(fixed, entries, fields, required, base):
    """The same, where each line is as short as it can be for itself."""
    length = len(write_block((required, base, ())))
    for field in fields:
        lines = fitting(all_lines(fixed, entries, field), required)
        length += min(len(write_block((required, base, (line,)))) for line in lines) - len(write_block((required, base, ())))
    return length


def slow_lengths(fixed, entries, fields, fewest):
    """The lengths as the document names them."""
    lengths = {}
    for required in [0] + [number + 1 for number in entries]:
        for base in range(required + 1):
            lengths[required, base] = fewest(fixed, entries, fields, required, base)
    return lengths


def octets_say(fixed, entries, fields, octets):
    """Whether these are the octets of a block that says the fields."""
    return slow_says(fixed, entries, read_block(octets)[2]) == fields
