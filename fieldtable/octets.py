"""What fields, settings and octets are, and how octets write numbers and strings."""

from fieldtable.errors import NoOctetList, NoOctets, NoSetting, NoStream, NoValue

NUMBER_MOST = 9999
STREAM_MOST = 20
NAME_MOST = 20
VALUE_MOST = 40
FIELDS_MOST = 16
FIXED_MOST = 12
ROOM_MOST = 120
WAITING_MOST = 4
VALUE_PREFIX = 7

# By their numbers in ASCII, so that one table serves to check a string, and to read one from octets.
CHARACTERS = {
    32: " ", 45: "-", 46: ".", 47: "/",
    48: "0", 49: "1", 50: "2", 51: "3", 52: "4", 53: "5", 54: "6", 55: "7", 56: "8", 57: "9",
    58: ":", 59: ";", 61: "=",
    97: "a", 98: "b", 99: "c", 100: "d", 101: "e", 102: "f", 103: "g", 104: "h", 105: "i",
    106: "j", 107: "k", 108: "l", 109: "m", 110: "n", 111: "o", 112: "p", 113: "q", 114: "r",
    115: "s", 116: "t", 117: "u", 118: "v", 119: "w", 120: "x", 121: "y", 122: "z",
}


def is_between(thing, least, most):
    """Whether this is an integer from least to most; True and False are none."""
    return isinstance(thing, int) and not isinstance(thing, bool) and least <= thing <= most


def is_number(thing):
    """Whether this is a number that octets can write."""
    return is_between(thing, 0, NUMBER_MOST)


def is_stream(thing):
    """Whether this is a stream."""
    return is_between(thing, 0, STREAM_MOST)


def is_text(thing, least, most):
    """Whether this is a string of least to most characters, all of them allowed in a field."""
    if not isinstance(thing, str) or not least <= len(thing) <= most:
        return False
    return all([ord(character) in CHARACTERS for character in thing])


def is_name(thing):
    """Whether this is the name of a field."""
    return is_text(thing, 1, NAME_MOST)


def is_value(thing):
    """Whether this is the value of a field."""
    return is_text(thing, 0, VALUE_MOST)


def is_field(thing):
    """Whether this is a field, a tuple (name, value)."""
    return isinstance(thing, tuple) and len(thing) == 2 and is_name(thing[0]) and is_value(thing[1])


def is_tuple_of_fields(thing, most):
    """Whether this is a tuple of at most so many fields."""
    if not isinstance(thing, tuple) or len(thing) > most:
        return False
    return all([is_field(field) for field in thing])


def are_fields(thing):
    """Whether this is a list of fields: a tuple, as it is all through the package."""
    return is_tuple_of_fields(thing, FIELDS_MOST)


def is_setting(thing):
    """Whether this is a setting, a tuple (fixed, room, waiting)."""
    if not isinstance(thing, tuple) or len(thing) != 3:
        return False
    fixed, room, waiting = thing
    if not is_tuple_of_fields(fixed, FIXED_MOST):
        return False
    return is_between(room, 0, ROOM_MOST) and is_between(waiting, 0, WAITING_MOST)


def are_octets(thing):
    """Whether this is a list of octets."""
    return isinstance(thing, list) and all([is_between(octet, 0, 255) for octet in thing])


def check_setting(setting):
    """Raise NoSetting for what is no setting."""
    if not is_setting(setting):
        raise NoSetting("a setting is a tuple (fixed, room, waiting)")


def check_stream(stream):
    """Raise NoStream for what is no stream."""
    if not is_stream(stream):
        raise NoStream("a stream is an integer from 0 to 20")


def check_octets(octets):
    """Raise NoOctetList for what are no octets."""
    if not are_octets(octets):
        raise NoOctetList("octets are a list of integers from 0 to 255")


def check_prefix(prefix, mark):
    """Raise NoValue for what is no prefix, or no mark above it."""
    if not is_between(prefix, 1, 8):
        raise NoValue("a prefix is an integer from 1 to 8")
    if not is_between(mark, 0, 255) or mark & prefix_bits(prefix) != 0:
        raise NoValue("a mark is an integer from 0 to 255 with all bits of the prefix 0")


def prefix_bits(prefix):
    """All bits of a prefix: the least number that it does not write in one octet."""
    return (1 << prefix) - 1


def number_octets(number, prefix, mark):
    """The octets of a number with a prefix of so many bits behind a mark."""
    if not is_number(number):
        raise NoValue("a number is an integer from 0 to 9999")
    check_prefix(prefix, mark)
    bits = prefix_bits(prefix)
    if number < bits:
        return [mark + number]
    octets = [mark + bits]
    rest = number - bits
    while rest >= 128:
        octets.append(128 + (rest & 127))
        rest = rest >> 7
    octets.append(rest)
    return octets


def string_octets(text, prefix, mark):
    """The octets of a string, its length with a prefix of so many bits behind a mark."""
    if not is_value(text):
        raise NoValue("a string has up to 40 characters that are allowed in a field")
    return number_octets(len(text), prefix, mark) + [ord(character) for character in text]


def value_octets(value):
    """The octets of a value, which are the same in instructions and in blocks."""
    return string_octets(value, VALUE_PREFIX, 0)


class Reader:
    """Reads octets from the first to the last, and raises NoOctets where they cannot go on."""

    def __init__(self, octets):
        self.octets = octets
        self.place = 0

    def at_end(self):
        """Whether all octets are read."""
        return self.place == len(self.octets)

    def look(self):
        """The next octet, without going on behind it."""
        if self.at_end():
            raise NoOctets(self.place)
        return self.octets[self.place]

    def accept(self, fits):
        """Go on behind the next octet, if it fits here."""
        if not fits:
            raise NoOctets(self.place)
        self.place += 1

    def finish(self):
        """Raise NoOctets if an octet is left."""
        if not self.at_end():
            raise NoOctets(self.place)

    def take_number(self, prefix, mark, least, most):
        """Read a number from least, which is 0 or 1, to most; there may be none if most is below 0."""
        bits = prefix_bits(prefix)
        number = self.look() - mark
        self.accept(least <= number <= min(bits, most))
        if number < bits:
            return number
        return bits + self.take_rest(most - bits)

    def take_rest(self, most):
        """Read what is left of a number behind its prefix, if it can be no more than most."""
        rest = 0
        weight = 1
        while self.look() >= 128:
            rest += (self.look() - 128) * weight
            weight = weight * 128
            # The last octet is not 0 behind another one, so at least this weight is still to come.
            self.accept(rest + weight <= most)
        last = self.look()
        rest += last * weight
        self.accept(rest <= most and (last > 0 or weight == 1))
        return rest

    def take_string(self, prefix, mark, least, most):
        """Read a string of least to most characters."""
        length = self.take_number(prefix, mark, least, most)
        text = ""
        for _ in range(length):
            octet = self.look()
            self.accept(octet in CHARACTERS)
            text += CHARACTERS[octet]
        return text

    def take_name(self, prefix, mark):
        """Read the name of a field."""
        return self.take_string(prefix, mark, 1, NAME_MOST)

    def take_value(self):
        """Read the value of a field."""
        return self.take_string(VALUE_PREFIX, 0, 0, VALUE_MOST)
