"""The errors that the package raises."""


class FieldError(ValueError):
    """What every error of the package is."""


class NoSetting(FieldError):
    """An argument is no setting."""


class NoField(FieldError):
    """An argument is no field, no list of fields, or no entries."""


class NoValue(FieldError):
    """An argument is not what can be written."""


class NoNumber(FieldError):
    """A number counts more, or less, than there is."""


class NoStream(FieldError):
    """An argument is no stream, or none with which this can be done."""


class NoOctetList(FieldError):
    """An argument is no list of octets."""


class NoLog(FieldError):
    """An argument is no log, or not a good one."""


class Held(FieldError):
    """An entry to which an open block refers would leave the table."""


class TooGreat(FieldError):
    """An entry cannot be inserted, or a limit is above the room."""


class TooManyStates(FieldError):
    """A log has more states than are listed."""


class NoOctets(FieldError):
    """Octets cannot be read: they cannot go on at this place, or end there too early."""

    def __init__(self, place):
        FieldError.__init__(self, f"the octets cannot be read at the place {place}")
        self.place = place


class BadTable(FieldError):
    """The instruction with this number cannot be read or carried out."""

    def __init__(self, number):
        FieldError.__init__(self, f"the instruction {number} cannot be carried out")
        self.number = number


class BadBlock(FieldError):
    """A block of this stream cannot be read."""

    def __init__(self, stream):
        FieldError.__init__(self, f"a block of the stream {stream} cannot be read")
        self.stream = stream


class TooMany(FieldError):
    """With this stream more streams would wait than may."""

    def __init__(self, stream):
        FieldError.__init__(self, f"too many streams would wait with the stream {stream}")
        self.stream = stream


class BadAnswer(FieldError):
    """The answer with this number cannot be read, or cannot be."""

    def __init__(self, number):
        FieldError.__init__(self, f"the answer {number} cannot be")
        self.number = number


class BadOrder(FieldError):
    """The step with this number is none, or cannot be taken."""

    def __init__(self, number):
        FieldError.__init__(self, f"the step {number} cannot be taken")
        self.number = number


class NoAnswer(FieldError):
    """This event of a log is an answer that no order makes take place."""

    def __init__(self, event):
        FieldError.__init__(self, f"no order makes the answer of the event {event} take place")
        self.event = event
