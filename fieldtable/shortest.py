"""The shortest block that says a list of fields."""

from fieldtable.blocks import line_octets, named_octets, whole_octets, write_block
from fieldtable.errors import NoField
from fieldtable.octets import are_fields, check_setting, is_between, is_number, number_octets, value_octets
from fieldtable.tables import check_entries


def shortest(setting, entries, fields):
    """The fewest octets of a block that says the fields, such octets, and the fewest for each required and base."""
    lengths = checked_lengths(setting, entries, fields)
    required, base = best_pair(lengths)
    octets = write_block(best_block(setting[0], entries, fields, required, base))
    return (lengths[(required, base)], octets, lengths)


def are_lengths(setting, entries, fields, thing):
    """Whether this is the dict from each required and base to the fewest octets with these."""
    lengths = checked_lengths(setting, entries, fields)
    if not isinstance(thing, dict) or len(thing) != len(lengths):
        return False
    return all([is_pair(key) and key in lengths and is_just(thing[key], lengths[key]) for key in thing])


def is_pair(thing):
    """Whether this is a tuple of two numbers."""
    return isinstance(thing, tuple) and len(thing) == 2 and is_number(thing[0]) and is_number(thing[1])


def is_just(thing, number):
    """Whether this is just this integer."""
    return is_between(thing, number, number)


def checked_lengths(setting, entries, fields):
    """The fewest octets for each required and base, if the arguments are what they should be."""
    check_setting(setting)
    check_entries(entries)
    if not are_fields(fields):
        raise NoField("this is no list of fields")
    return fewest_octets(setting[0], entries, fields, 0)


def shortest_block(fixed, entries, fields):
    """A shortest block that says the fields, with the least required among the shortest."""
    # With a base below the oldest entry each reference takes as many octets or more.
    required, base = best_pair(fewest_octets(fixed, entries, fields, min(entries, default=0)))
    return best_block(fixed, entries, fields, required, base)


def fewest_octets(fixed, entries, fields, lowest):
    """A dict from each (required, base) to the fewest octets, for bases from the lowest on where they reach it."""
    requireds = [0] + [number + 1 for number in sorted(entries)]
    rows = {}
    lengths = {}
    for required in requireds:
        for base in range(min(lowest, required), required + 1):
            if base not in rows:
                rows[base] = [best_choices(fixed, entries, field, base) for field in fields]
            head = len(number_octets(required, 8, 0)) + len(number_octets(required - base, 8, 0))
            lengths[(required, base)] = head + sum([best_choice(row, required)[1] for row in rows[base]])
    return lengths


def best_pair(lengths):
    """The (required, base) with the fewest octets, with the least required among such."""
    return min([(lengths[pair], pair) for pair in lengths])[1]


def best_block(fixed, entries, fields, required, base):
    """A shortest block with this required and base that says the fields."""
    rows = [best_choices(fixed, entries, field, base) for field in fields]
    return (required, base, tuple([best_choice(row, required)[2] for row in rows]))


def best_choice(choices, required):
    """The last of these choices that a block with this required can have."""
    return [choice for choice in choices if choice[0] <= required][-1]


def best_choices(fixed, entries, field, base):
    """The choices for a field by what they require, each of them shorter than those that require less."""
    kept = []
    for choice in sorted(line_choices(fixed, entries, field, base)):
        if not kept or choice[1] < kept[-1][1]:
            kept.append(choice)
    return kept


def line_choices(fixed, entries, field, base):
    """The lines for a field with this base, each as (what is required for it, number of octets, line)."""
    name, value = field
    line = ("out", name, value)
    value_length = len(value_octets(value))
    choices = [(0, len(line_octets(line, base)), line)]
    for required, kind, number, other in referable(fixed, entries):
        if other == field:
            choices.append((required, len(whole_octets(kind, number, base)), (kind, number)))
        elif other[0] == name:
            length = len(named_octets(kind, number, base)) + value_length
            choices.append((required, length, (kind, number, value)))
    return choices


def referable(fixed, entries):
    """All that a line can refer to, each as (what is required for it, kind, number, field)."""
    return [(0, "fixed", number, field) for number, field in enumerate(fixed)] + [
        (number + 1, "entry", number, field) for number, field in entries.items()
    ]
