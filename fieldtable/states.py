"""The states to which the orders for a good log lead."""

from fieldtable.blocks import read_block
from fieldtable.courses import good_course
from fieldtable.errors import NoOctets, TooManyStates
from fieldtable.instructions import read_answer
from fieldtable.octets import is_number, is_stream

STATES_MOST = 1500


def all_states(setting, log):
    """The ascending list of all states of a good log."""
    plan = Plan(log, good_course(setting, log))
    first = (0, 0, tuple([0 for _ in plan.streams]), 0, 0)
    found = {first: True}
    fresh = [first]
    while fresh:
        later = []
        for point in fresh:
            for other in plan.points_behind(point):
                if other not in found:
                    found[other] = True
                    later.append(other)
        if len(found) > STATES_MOST:
            raise TooManyStates("there are more than 1500 states")
        fresh = later
    return sorted([plan.state(point) for point in found])


def are_states(setting, log, thing):
    """Whether this is a list of all states of a good log, perhaps with other tuples of this form."""
    states = all_states(setting, log)
    streams = [stream for stream, _ in states[0][2]]
    if not isinstance(thing, list) or not all([has_form(each, streams) for each in thing]):
        return False
    there = {each: True for each in thing}
    return all([state in there for state in states])


def has_form(thing, streams):
    """Whether this has the form of a state of a log with blocks on these streams."""
    if not isinstance(thing, tuple) or len(thing) != 5:
        return False
    events, instructions, blocks, told, cancelled = thing
    if not all([is_number(events), is_number(instructions), is_number(told)]):
        return False
    if not isinstance(blocks, tuple) or not isinstance(cancelled, tuple) or len(blocks) != len(streams):
        return False
    pairs = [is_pair_of(pair, stream) for pair, stream in zip(blocks, streams)]
    return all(pairs) and all([is_stream(stream) for stream in cancelled])


def is_pair_of(thing, stream):
    """Whether this is a pair of just this stream and a number."""
    if not isinstance(thing, tuple) or len(thing) != 2:
        return False
    return is_stream(thing[0]) and thing[0] == stream and is_number(thing[1])


class Plan:
    """What the steps of orders depend on in a good log.

    A POINT is (events, instructions, arrived, made, told): how many events took place, how many instructions arrived,
    how many blocks of each stream did, how many of the log's answers were made, and how many insertions are told.
    A state tells its point: which blocks were read follows from what arrived, and each answer other than that to a
    block makes more told or cancelled.
    """

    def __init__(self, log, course):
        self.events = log
        self.streams = sorted({event[1] for event in log if event[0] == "block"})
        self.log_answers = [read_answer(event[1]) for event in log if event[0] == "answer"]
        self.counts = [0] + [row[0] for event, row in zip(log, course.rows) if event[0] == "table"]
        self.requireds = [[block_required(octets) for octets in blocks_of(log, stream)] for stream in self.streams]
        kinds = [event[0] for event in log]
        self.tables_sent = [kinds[:number].count("table") for number in range(len(log) + 1)]
        self.answers_heard = [kinds[:number].count("answer") for number in range(len(log) + 1)]
        self.blocks_sent = [
            [len(blocks_of(log[:number], stream)) for stream in self.streams] for number in range(len(log) + 1)
        ]

    def state(self, point):
        """The state at a point."""
        events, instructions, arrived, made, told = point
        return (events, instructions, tuple(zip(self.streams, arrived)), told, tuple(sorted(self.given_up(made))))

    def given_up(self, made):
        """The streams that are cancelled when so many of the answers were made."""
        return [number for kind, number in self.log_answers[:made] if kind == "cancelled"]

    def points_behind(self, point):
        """The points to which one step leads."""
        found = self.behind_send(point) + self.behind_table(point) + self.behind_call(point)
        for at in range(len(self.streams)):
            found.extend(self.behind_block(point, at))
        return found

    def behind_send(self, point):
        """The point behind the next event, if it can take place."""
        events, instructions, arrived, made, told = point
        if events == len(self.events):
            return []
        if self.events[events][0] == "answer" and self.answers_heard[events] == made:
            return []
        return [(events + 1, instructions, arrived, made, told)]

    def behind_table(self, point):
        """The point behind the next instruction, if one is under way and only the right answers are made."""
        events, instructions, arrived, made, told = point
        if instructions == self.tables_sent[events]:
            return []
        before = (self.counts[instructions], arrived)
        after = (self.counts[instructions + 1], arrived)
        return self.behind_reading(before, after, (events, instructions + 1, arrived, made, told))

    def behind_block(self, point, at):
        """The point behind the next block of the stream at this place, if one is under way and may be read."""
        events, instructions, arrived, made, told = point
        if arrived[at] == self.blocks_sent[events][at]:
            return []
        more = arrived[:at] + (arrived[at] + 1,) + arrived[at + 1:]
        count = self.counts[instructions]
        return self.behind_reading((count, arrived), (count, more), (events, instructions, more, made, told))

    def behind_reading(self, before, after, point):
        """The point behind the reading of what can be read now, but could not be before."""
        events, instructions, arrived, made, told = point
        for stream, required in self.readings(before, after, made):
            if made < len(self.log_answers):
                if self.log_answers[made] != ("done", stream):
                    return []
                made += 1
            told = max(told, required)
        return [(events, instructions, arrived, made, told)]

    def readings(self, before, after, made):
        """The blocks that are read and answered now, as (stream, required) each."""
        cancelled = self.given_up(made)
        found = []
        for at, stream in enumerate(self.streams):
            if stream not in cancelled:
                fresh = self.requireds[at][self.read(before, at):self.read(after, at)]
                found.extend([(stream, required) for required in fresh if required > 0])
        return found

    def read(self, there, at):
        """How many blocks of the stream at this place are read when this (count, arrived) is there."""
        count, arrived = there
        for number, required in enumerate(self.requireds[at][:arrived[at]]):
            if required > count:
                return number
        return arrived[at]

    def behind_call(self, point):
        """The point behind a call of the receiver that makes the next answer, if it can be made by one."""
        events, instructions, arrived, made, told = point
        if made == len(self.log_answers):
            return []
        kind, number = self.log_answers[made]
        if kind == "cancelled":
            return [(events, instructions, arrived, made + 1, told)]
        if kind == "received" and number <= self.counts[instructions] - told:
            return [(events, instructions, arrived, made + 1, told + number)]
        return []


def blocks_of(log, stream):
    """The octets of all blocks of a stream."""
    return [event[2] for event in log if event[0] == "block" and event[1] == stream]


def block_required(octets):
    """What a block requires; 0 for one that cannot be read, which is on a stream that was cancelled."""
    try:
        return read_block(octets)[0]
    except NoOctets:
        return 0
