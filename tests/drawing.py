"""Draws settings, fields and instructions for tests; all from a given random.Random, so each run is the same."""

NAMES = ["a", "b", "cc", "n" * 20]
VALUES = ["", "x", "yy", "v" * 9]


def field(chance):
    return (chance.choice(NAMES[:3]), chance.choice(VALUES[:3]))


def wide_field(chance):
    return (chance.choice(NAMES), chance.choice(VALUES + ["v" * 40]))


def fields(chance, most):
    return tuple(field(chance) for _ in range(chance.randint(0, most)))


def setting(chance):
    room = chance.choice([0, 5, 9, 13, 20, 31, 60, 120])
    return (fields(chance, 4), room, chance.randint(0, 4))


def instruction(chance):
    """An instruction of which it is not sure that it can be carried out."""
    kind = chance.choice(["fixed", "entry", "new", "new", "again", "limit"])
    if kind == "new":
        return (kind,) + wide_field(chance)
    if kind == "limit":
        return (kind, chance.choice([0, 4, 5, 6, 12, 20, 31, 60, 119, 120, 121]))
    number = chance.choice([0, 0, 0, 1, 1, 2, 3, 9])
    if kind == "again":
        return (kind, number)
    return (kind, number, chance.choice(VALUES))
