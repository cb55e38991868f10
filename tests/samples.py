"""Values that several tests use."""

# The characters of a field, written out apart from the program's own table.
ALLOWED = "abcdefghijklmnopqrstuvwxyz" + "0123456789" + "-./:;=" + " "

# One value of each other kind, for functions that take any argument.
ODD_THINGS = [
    None, True, False, 0, 1, -1, 10 ** 20, -10 ** 20, 1.0, 1.5, "", "a", "new", b"", b"a",
    [], [0], [[]], (), (0,), ((),), (None, None), (None, None, None), ([], 1), ({}, 1, 1), ({1: 2}, []),
    {}, {"a": 1}, {True: False}, set(), {1, 2}, frozenset(), range(3), object(), len, int, ValueError("a"),
    (((((((((),),),),),),),),), ["again", 1], {"again": 1},
]

# What are no octets, where octets are asked for.
NO_OCTETS = [
    None, True, 0, 1.0, "", "ab", b"", b"ab", bytearray(b"a"), (), (0,), (128, 1), {}, {0: 1}, set(), {1}, range(3),
    [True], [False], [0, True], [-1], [256], [0, -1], [0, 256], [10 ** 20], [-10 ** 20], [1.0], [None], ["a"], ["1"],
    [[]], [[0]], [(0,)], [b"a"], [5, 5, 5, "a"],
]


def bounds(prefix):
    """The numbers around each bound at which a number with this prefix takes an octet more."""
    full = 2 ** prefix - 1
    near = [0, 1, full - 1, full, full + 1, full + 126, full + 127, full + 128, full + 129, 9998, 9999]
    return sorted(set(number for number in near if number <= 9999))


def long_field():
    """The longest field."""
    return ("n" * 20, "v" * 40)
