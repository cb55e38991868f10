"""The instructions for the table and the answers, and their octets."""

from fieldtable.errors import NoValue
from fieldtable.octets import NUMBER_MOST, STREAM_MOST, Reader, check_octets
from fieldtable.octets import is_between, is_name, is_number, is_stream, is_value
from fieldtable.octets import number_octets, string_octets, value_octets


def is_instruction(thing):
    """Whether this is an instruction."""
    if not isinstance(thing, tuple) or len(thing) not in (2, 3):
        return False
    if len(thing) == 2:
        return thing[0] in ("again", "limit") and is_number(thing[1])
    kind, source, value = thing
    if kind == "new":
        return is_name(source) and is_value(value)
    return kind in ("fixed", "entry") and is_number(source) and is_value(value)


def write_instruction(instruction):
    """The octets of an instruction."""
    if not is_instruction(instruction):
        raise NoValue("this is no instruction")
    kind = instruction[0]
    if kind == "again":
        return number_octets(instruction[1], 5, 0)
    if kind == "limit":
        return number_octets(instruction[1], 5, 32)
    return source_octets(kind, instruction[1]) + value_octets(instruction[2])


def source_octets(kind, source):
    """The octets that tell where an inserted field has its name from."""
    if kind == "fixed":
        return number_octets(source, 6, 192)
    if kind == "entry":
        return number_octets(source, 6, 128)
    return string_octets(source, 5, 64)


def read_instruction(octets):
    """The instruction that just these octets write."""
    check_octets(octets)
    reader = Reader(octets)
    instruction = take_instruction(reader)
    reader.finish()
    return instruction


def take_instruction(reader):
    """Read the next instruction, and no octet behind it."""
    first = reader.look()
    if first < 32:
        return ("again", reader.take_number(5, 0, 0, NUMBER_MOST))
    if first < 64:
        return ("limit", reader.take_number(5, 32, 0, NUMBER_MOST))
    kind, source = take_source(reader)
    return (kind, source, reader.take_value())


def take_source(reader):
    """Read where an inserted field has its name from: the kind and the number or name."""
    first = reader.look()
    if first >= 192:
        return ("fixed", reader.take_number(6, 192, 0, NUMBER_MOST))
    if first >= 128:
        return ("entry", reader.take_number(6, 128, 0, NUMBER_MOST))
    return ("new", reader.take_name(5, 64))


def is_answer(thing):
    """Whether this is an answer."""
    if not isinstance(thing, tuple) or len(thing) != 2:
        return False
    kind, number = thing
    if kind == "received":
        return is_between(number, 1, NUMBER_MOST)
    return kind in ("done", "cancelled") and is_stream(number)


def write_answer(answer):
    """The octets of an answer."""
    if not is_answer(answer):
        raise NoValue("this is no answer")
    kind, number = answer
    if kind == "done":
        return number_octets(number, 7, 128)
    if kind == "cancelled":
        return number_octets(number, 6, 64)
    return number_octets(number, 6, 0)


def read_answer(octets):
    """The answer that just these octets write."""
    check_octets(octets)
    reader = Reader(octets)
    answer = take_answer(reader)
    reader.finish()
    return answer


def take_answer(reader):
    """Read the next answer, and no octet behind it."""
    first = reader.look()
    if first >= 128:
        return ("done", reader.take_number(7, 128, 0, STREAM_MOST))
    if first >= 64:
        return ("cancelled", reader.take_number(6, 64, 0, STREAM_MOST))
    return ("received", reader.take_number(6, 0, 1, NUMBER_MOST))
