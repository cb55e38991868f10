"""The blocks and their lines, and their octets."""

from fieldtable.errors import NoValue
from fieldtable.octets import NUMBER_MOST, Reader, check_octets
from fieldtable.octets import is_between, is_name, is_number, is_value
from fieldtable.octets import number_octets, string_octets, value_octets

LINES_MOST = 16


def is_line(thing, required):
    """Whether this is a line of a block with this required."""
    if not isinstance(thing, tuple) or len(thing) not in (2, 3):
        return False
    if len(thing) == 3 and not is_value(thing[2]):
        return False
    if thing[0] == "fixed":
        return is_number(thing[1])
    if thing[0] == "entry":
        return is_between(thing[1], 0, required - 1)
    return thing[0] == "out" and len(thing) == 3 and is_name(thing[1])


def is_block(thing):
    """Whether this is a block."""
    if not isinstance(thing, tuple) or len(thing) != 3:
        return False
    required, base, lines = thing
    if not is_number(required) or not is_between(base, 0, required):
        return False
    if not isinstance(lines, tuple) or len(lines) > LINES_MOST:
        return False
    return all([is_line(line, required) for line in lines])


def write_block(block):
    """The octets of a block."""
    if not is_block(block):
        raise NoValue("this is no block")
    required, base, lines = block
    octets = number_octets(required, 8, 0) + number_octets(required - base, 8, 0)
    for line in lines:
        octets.extend(line_octets(line, base))
    return octets


def line_octets(line, base):
    """The octets of a line in a block with this base."""
    kind = line[0]
    if kind == "out":
        return string_octets(line[1], 4, 32) + value_octets(line[2])
    if len(line) == 2:
        return whole_octets(kind, line[1], base)
    return named_octets(kind, line[1], base) + value_octets(line[2])


def whole_octets(kind, number, base):
    """The octets of a reference to a whole field."""
    if kind == "fixed":
        return number_octets(number, 6, 192)
    if number < base:
        return number_octets(base - number - 1, 3, 128)
    return number_octets(number - base, 2, 16)


def named_octets(kind, number, base):
    """The octets of a reference to a field's name, ahead of a value."""
    if kind == "fixed":
        return number_octets(number, 4, 96)
    if number < base:
        return number_octets(base - number - 1, 3, 64)
    return number_octets(number - base, 2, 0)


def read_block(octets):
    """The block that just these octets write."""
    check_octets(octets)
    reader = Reader(octets)
    required = reader.take_number(8, 0, 0, NUMBER_MOST)
    base = required - reader.take_number(8, 0, 0, required)
    lines = []
    while not reader.at_end() and len(lines) < LINES_MOST:
        lines.append(take_line(reader, required, base))
    reader.finish()
    return (required, base, tuple(lines))


def take_line(reader, required, base):
    """Read the next line of a block with these."""
    first = reader.look()
    if first >= 128 or 16 <= first < 32:
        return take_whole(reader, required, base)
    if 32 <= first < 64:
        name = reader.take_name(4, 32)
        return ("out", name, reader.take_value())
    kind, number = take_named(reader, required, base)
    return (kind, number, reader.take_value())


def take_whole(reader, required, base):
    """Read a reference to a whole field: its kind and number."""
    first = reader.look()
    if first >= 192:
        return ("fixed", reader.take_number(6, 192, 0, NUMBER_MOST))
    if first >= 128:
        return ("entry", base - 1 - reader.take_number(3, 128, 0, base - 1))
    return ("entry", base + reader.take_number(2, 16, 0, required - base - 1))


def take_named(reader, required, base):
    """Read a reference to a field's name: its kind and number."""
    first = reader.look()
    if first >= 96:
        return ("fixed", reader.take_number(4, 96, 0, NUMBER_MOST))
    if first >= 64:
        return ("entry", base - 1 - reader.take_number(3, 64, 0, base - 1))
    return ("entry", base + reader.take_number(2, 0, 0, required - base - 1))
