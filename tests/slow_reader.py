"""A slow reader for tests: it lists all written forms of numbers and walks along them.

It finds the place that NoOctets names by looking among the written forms, so it shares no
reasoning with the program about which octets can still go on.
"""

from functools import lru_cache

from tests.samples import ALLOWED

CODES = [ord(character) for character in ALLOWED]
VALUE = ("text", 7, 0, 0, 40)


class Stuck(Exception):
    def __init__(self, place):
        super().__init__(place)
        self.place = place


def written(number, prefix, mark):
    full = 2 ** prefix - 1
    if number < full:
        return (mark + number,)
    octets = [mark + full]
    rest = number - full
    while rest > 127:
        octets.append(rest % 128 + 128)
        rest //= 128
    return tuple(octets) + (rest,)


@lru_cache(maxsize=None)
def forms(prefix, mark, least):
    """(all written forms to their numbers, all beginnings of them to the least number that has it)"""
    whole = {}
    least_of = {}
    for number in range(least, 10000):
        form = written(number, prefix, mark)
        whole[form] = number
        for length in range(1, len(form) + 1):
            least_of.setdefault(form[:length], number)
    return whole, least_of


def walk_number(octets, place, part):
    _, prefix, mark, least, most = part
    whole, least_of = forms(prefix, mark, least)
    form = ()
    while True:
        if place == len(octets):
            raise Stuck(place)
        form = form + (octets[place],)
        if form not in least_of or least_of[form] > most:
            raise Stuck(place)
        place += 1
        if form in whole:
            return whole[form], place


def walk(octets, place, parts):
    for part in parts:
        number, place = walk_number(octets, place, part)
        if part[0] == "text":
            for _ in range(number):
                if place == len(octets) or octets[place] not in CODES:
                    raise Stuck(place)
                place += 1
    return place


def walk_one_of(octets, place, choices):
    ends = []
    places = []
    for parts in choices:
        try:
            ends.append(walk(octets, place, parts))
        except Stuck as stuck:
            places.append(stuck.place)
    if not ends:
        raise Stuck(max(places))
    assert len(ends) == 1, "two forms begin alike"
    return ends[0]


INSTRUCTIONS = [
    [("number", 6, 192, 0, 9999), VALUE],
    [("number", 6, 128, 0, 9999), VALUE],
    [("text", 5, 64, 1, 20), VALUE],
    [("number", 5, 0, 0, 9999)],
    [("number", 5, 32, 0, 9999)],
]
ANSWERS = [[("number", 7, 128, 0, 20)], [("number", 6, 64, 0, 20)], [("number", 6, 0, 1, 9999)]]


def lines(required, base):
    return [
        [("number", 6, 192, 0, 9999)],
        [("number", 3, 128, 0, base - 1)],
        [("number", 2, 16, 0, required - base - 1)],
        [("number", 4, 96, 0, 9999), VALUE],
        [("number", 3, 64, 0, base - 1), VALUE],
        [("number", 2, 0, 0, required - base - 1), VALUE],
        [("text", 4, 32, 1, 20), VALUE],
    ]


def walk_block(octets):
    required, place = walk_number(octets, 0, ("number", 8, 0, 0, 9999))
    less, place = walk_number(octets, place, ("number", 8, 0, 0, required))
    count = 0
    while place < len(octets) and count < 16:
        place = walk_one_of(octets, place, lines(required, required - less))
        count += 1
    return place


def bad_place(kind, octets):
    """The place that NoOctets has to name for these octets, or None if they can be read."""
    try:
        if kind == "instruction":
            place = walk_one_of(octets, 0, INSTRUCTIONS)
        elif kind == "answer":
            place = walk_one_of(octets, 0, ANSWERS)
        else:
            place = walk_block(octets)
    except Stuck as stuck:
        return stuck.place
    return None if place == len(octets) else place
