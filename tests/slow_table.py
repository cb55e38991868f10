"""A slow table for tests: it works everything out anew from the list of all instructions."""


def size(field):
    return sum(len(part) for part in field) + 4


def source(fixed, rows, count, instruction):
    """The field that an instruction inserts; LookupError if it takes it from what there is not."""
    kind = instruction[0]
    if kind == "new":
        return instruction[1:]
    if kind == "fixed":
        return (fixed[instruction[1]][0], instruction[2])
    there = dict(rows)[count - 1 - instruction[1]]
    return there if kind == "again" else (there[0], instruction[2])


def slow_table(setting, instructions):
    """(count, entries, limit, number of the first instruction that cannot be carried out or None, all that left)"""
    fixed, room, _ = setting
    limit, count, rows, left = room, 0, [], []
    for number, instruction in enumerate(instructions):
        more = 0
        if instruction[0] == "limit":
            if instruction[1] > room:
                return count, dict(rows), limit, number, left
            limit = instruction[1]
        else:
            try:
                field = source(fixed, rows, count, instruction)
            except LookupError:
                return count, dict(rows), limit, number, left
            if size(field) > limit or count == 9999:
                return count, dict(rows), limit, number, left
            rows.append((count, field))
            count += 1
            more = 1
        while sum(size(field) for _, field in rows) > limit:
            assert len(rows) > more
            left.append(rows.pop(0)[0])
    return count, dict(rows), limit, None, left


def slow_says(fixed, entries, lines):
    """The list of fields that these lines are, or None."""
    fields = []
    for line in lines:
        try:
            if line[0] == "out":
                field = (line[1], line[2])
            else:
                field = {"fixed": dict(enumerate(fixed)), "entry": entries}[line[0]][line[1]]
                field = (field[0], line[2]) if line[2:] else field
        except KeyError:
            return None
        fields.append(field)
    return tuple(fields)
