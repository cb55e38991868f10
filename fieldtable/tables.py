"""The table of entries, and what a block says with it."""

from fieldtable.blocks import is_block
from fieldtable.errors import BadTable, NoField, NoValue
from fieldtable.instructions import is_instruction
from fieldtable.octets import NUMBER_MOST, check_setting, is_between, is_field

ENTRIES_MOST = 24
ENTRY_MOST = 40
SIZE_MORE = 4


def are_entries(thing):
    """Whether this is a dict from numbers of entries to their fields."""
    if not isinstance(thing, dict) or len(thing) > ENTRIES_MOST:
        return False
    return all([is_between(number, 0, ENTRY_MOST) and is_field(thing[number]) for number in thing])


def check_entries(entries):
    """Raise NoField for what are no entries."""
    if not are_entries(entries):
        raise NoField("entries are a dict from at most 24 numbers up to 40 to fields")


def run_table(setting, instructions):
    """The number of insertions and the entries of a table behind these instructions."""
    check_setting(setting)
    if not isinstance(instructions, list) or not all([is_instruction(thing) for thing in instructions]):
        raise NoValue("this is no list of instructions")
    table = Table(setting)
    for number, instruction in enumerate(instructions):
        if not table.carry_out(instruction):
            raise BadTable(number)
    return (table.made, table.kept)


def says(setting, entries, block):
    """The list of fields that a block says, or None if it refers to what there is not."""
    check_setting(setting)
    check_entries(entries)
    if not is_block(block):
        raise NoValue("this is no block")
    return said_fields(setting[0], entries, block[2])


def said_fields(fixed, entries, lines):
    """The fields that lines are, or None if one of them refers to what there is not."""
    fields = [said_field(fixed, entries, line) for line in lines]
    if None in fields:
        return None
    return tuple(fields)


def said_field(fixed, entries, line):
    """The field that a line is, or None if it refers to what there is not."""
    if line[0] == "out":
        return (line[1], line[2])
    field = referred(fixed, entries, line[0], line[1])
    if field is None or len(line) == 2:
        return field
    return (field[0], line[2])


def referred(fixed, entries, kind, number):
    """The fixed field or the entry with this number, or None if there is none."""
    if kind == "entry":
        return entries.get(number)
    if number < len(fixed):
        return fixed[number]
    return None


def entry_size(field):
    """The size of an entry."""
    return len(field[0]) + len(field[1]) + SIZE_MORE


class Table:
    """The entries of one end by their numbers, and the limit of their sizes."""

    def __init__(self, setting):
        self.setting = setting
        self.bound = setting[1]
        self.made = 0
        # The numbers are put in as they ascend, so that to go over them begins with the oldest entry.
        self.kept = {}

    def copied(self):
        """A table like this one, to which changes of this one mean nothing."""
        table = Table(self.setting)
        table.bound = self.bound
        table.made = self.made
        table.kept = dict(self.kept)
        return table

    def carry_out(self, instruction):
        """Carry out an instruction, or return False if it cannot be."""
        if instruction[0] == "limit":
            return self.set_bound(instruction[1])
        field = self.inserted(instruction)
        if field is None or not self.has_room(field):
            return False
        self.drop(self.leaving(self.bound, entry_size(field)))
        self.kept[self.made] = field
        self.made += 1
        return True

    def set_bound(self, bound):
        """Set the limit, or return False if it is above the room."""
        if bound > self.setting[1]:
            return False
        self.drop(self.leaving(bound, 0))
        self.bound = bound
        return True

    def inserted(self, instruction):
        """The field that an instruction inserts, or None if it takes it from what there is not."""
        kind = instruction[0]
        if kind == "new":
            return (instruction[1], instruction[2])
        if kind == "again":
            return self.kept.get(self.made - 1 - instruction[1])
        number = instruction[1]
        if kind == "entry":
            number = self.made - 1 - number
        return said_field(self.setting[0], self.kept, (kind, number, instruction[2]))

    def has_room(self, field):
        """Whether an entry with this field can be inserted."""
        return entry_size(field) <= self.bound and self.made < NUMBER_MOST

    def leaving(self, bound, more):
        """The numbers of the oldest entries that leave, so that the others and so much more keep to a bound."""
        total = more + sum([entry_size(field) for field in self.kept.values()])
        numbers = []
        for number in self.kept:
            if total <= bound:
                break
            total -= entry_size(self.kept[number])
            numbers.append(number)
        return numbers

    def drop(self, numbers):
        """Let the entries with these numbers leave."""
        for number in numbers:
            del self.kept[number]
