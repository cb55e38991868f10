"""All orders for a small log, for tests: a slow world that is walked through step by step.

It works out what there is from the numbers of what was sent and has arrived, apart from the program's receiver.
"""

from collections import namedtuple

from fieldtable.blocks import read_block
from fieldtable.instructions import read_answer, read_instruction
from tests.slow_reader import bad_place
from tests.slow_table import slow_says, slow_table

# arrived: for each stream how many of its blocks did; read: how many of these are done with; made: the answers.
Place = namedtuple("Place", "sent tables arrived read told cancelled made lists")


class Broken(Exception):
    """An error of the receiver."""


def parsed(kind, octets, read):
    return None if bad_place(kind, octets) is not None else read(octets)


class SlowWorld:
    def __init__(self, setting, log):
        self.setting = setting
        self.events = []
        for event in log:
            if event[0] == "table":
                self.events.append((event[0], None, parsed("instruction", event[1], read_instruction)))
            elif event[0] == "block":
                self.events.append((event[0], event[1], parsed("block", event[2], read_block)))
            else:
                self.events.append((event[0], None, parsed("answer", event[1], read_answer)))
        self.streams = sorted({stream for kind, stream, _ in self.events if kind == "block"})
        self.answers = [thing for kind, _, thing in self.events if kind == "answer"]
        self.instructions = [thing for kind, _, thing in self.events if kind == "table"]
        self.named = sorted(set(self.streams) | {
            answer[1] for answer in self.answers if answer and answer[0] in ("done", "cancelled")
        })
        self.tables = {}

    def start(self):
        none = tuple((stream, 0) for stream in self.streams)
        return Place(0, 0, none, none, 0, (), (), ())

    def table(self, many):
        """(count, entries) behind so many instructions, or None if one of them cannot be carried out."""
        if many not in self.tables:
            instructions = self.instructions[:many]
            if None in instructions:
                self.tables[many] = None
            else:
                count, entries, _, bad, _ = slow_table(self.setting, instructions)
                self.tables[many] = None if bad is not None else (count, entries)
        return self.tables[many]

    def sent(self, place, kind, stream=None):
        return [thing for each, other, thing in self.events[:place.sent] if each == kind and other == stream]

    def waiting(self, place):
        return tuple(
            stream for stream in self.streams
            if dict(place.read)[stream] < dict(place.arrived)[stream] and stream not in place.cancelled
        )

    def fails(self, place):
        """Whether all that was sent has arrived, and a stream waits."""
        if len(self.sent(place, "table")) > place.tables:
            return False
        if any(len(self.sent(place, "block", stream)) > many for stream, many in place.arrived):
            return False
        return self.waiting(place) != ()

    def go(self, place, step):
        """The place behind a step, or None if it cannot be taken; raises Broken."""
        kind = step[0]
        if kind == "send":
            if place.sent == len(self.events):
                return None
            if self.events[place.sent][0] == "answer":
                heard = len(self.sent(place, "answer"))
                if self.events[place.sent][2] is None or place.made[heard:heard + 1] != (self.events[place.sent][2],):
                    return None
            return place._replace(sent=place.sent + 1)
        if kind == "table":
            if place.tables == len(self.sent(place, "table")):
                return None
            return self.read_all(place._replace(tables=place.tables + 1))
        if kind == "block":
            return self.go_block(place, step[1])
        if kind == "tell":
            if not 1 <= step[1] <= self.table(place.tables)[0] - place.told:
                return None
            return place._replace(told=place.told + step[1], made=place.made + (("received", step[1]),))
        if step[1] in place.cancelled:
            return None
        return place._replace(cancelled=place.cancelled + (step[1],), made=place.made + (("cancelled", step[1]),))

    def go_block(self, place, stream):
        arrived = dict(place.arrived)
        if stream not in arrived or arrived[stream] == len(self.sent(place, "block", stream)):
            return None
        there = self.sent(place, "block", stream)[arrived[stream]]
        arrived[stream] += 1
        place = place._replace(arrived=tuple(sorted(arrived.items())))
        if stream in place.cancelled:
            return place
        if there is None:
            raise Broken
        place = self.read_all(place)
        if len(self.waiting(place)) > self.setting[2]:
            raise Broken
        return place

    def read_all(self, place):
        if self.table(place.tables) is None:
            raise Broken
        count, entries = self.table(place.tables)
        for stream in self.waiting(place):
            while stream in self.waiting(place):
                read = dict(place.read)
                required, _, lines = self.sent(place, "block", stream)[read[stream]]
                if required > count:
                    break
                fields = slow_says(self.setting[0], entries, lines)
                if fields is None:
                    raise Broken
                read[stream] += 1
                place = place._replace(read=tuple(sorted(read.items())), lists=place.lists + ((stream, fields),))
                if required:
                    place = place._replace(told=max(place.told, required), made=place.made + (("done", stream),))
        return place

    def steps(self, place):
        """All steps that might be taken; other streams are cancelled just as one that there is no block of."""
        count = self.table(place.tables)[0]
        return [("send",), ("table",)] + [("block", stream) for stream in self.streams] + [
            ("tell", n) for n in range(1, count - place.told + 1)
        ] + [("cancel", stream) for stream in self.named]

    def run(self, order):
        """(lists, waiting, count), or None behind an error; the number of the first bad step, as a string."""
        place = self.start()
        for number, step in enumerate(order):
            try:
                after = self.go(place, step)
            except Broken:
                return None if number == len(order) - 1 else str(number + 1)
            if after is None:
                return str(number)
            place = after
        return list(place.lists), self.waiting(place), self.table(place.tables)[0]

    def bare(self, place):
        """What later steps depend on: answers behind the log's last one mean nothing, nor what was read."""
        return place._replace(
            cancelled=tuple(sorted(place.cancelled)), made=place.made[:len(self.answers)], lists=(),
        )

    def places_by_events(self):
        """For each number of events all places that orders lead to, and whether one of these orders fails.

        It ends behind a number for which an order fails, or for which there is none.
        """
        found = []
        fresh = {self.bare(self.start())}
        while fresh:
            places, broken, later = set(fresh), False, set()
            while fresh:
                place = fresh.pop()
                broken = broken or self.fails(place)
                for step in self.steps(place):
                    try:
                        after = self.go(place, step)
                    except Broken:
                        broken = True
                        continue
                    if after is None:
                        continue
                    after = self.bare(after)
                    if step == ("send",):
                        later.add(after)
                    elif after not in places:
                        places.add(after)
                        fresh.add(after)
            found.append((places, broken))
            if broken:
                break
            fresh = later
        return found

    def judge(self):
        """("good",), ("bad", event) or ("none", event)"""
        found = self.places_by_events()
        assert not found[0][1]
        if found[-1][1]:
            return ("bad", len(found) - 2)
        if len(found) <= len(self.events):
            return ("none", len(found) - 1)
        return ("good",)

    def widest(self):
        return max(len(self.waiting(place)) for places, _ in self.places_by_events() for place in places)

    def states(self):
        """All states of a good log."""
        seen = {self.start()._replace(lists=())}
        fresh = set(seen)
        while fresh:
            place = fresh.pop()
            for step in self.steps(place):
                # What tell and cancel make is one of the log's answers.
                if step[0] in ("tell", "cancel") and len(place.made) >= len(self.answers):
                    continue
                after = self.go(place, step)
                if after is None or list(after.made[:len(self.answers)]) != self.answers[:len(after.made)]:
                    continue
                after = after._replace(lists=())
                if after not in seen:
                    seen.add(after)
                    fresh.add(after)
        return sorted({
            (place.sent, place.tables, place.arrived, place.told, tuple(sorted(place.cancelled))) for place in seen
        })


def drawn_order(chance, world, length):
    """An order of steps that can be taken, up to an error, and the place behind it; at times a last step that cannot."""
    order, place = [], world.start()
    # At times what is under way arrives in the end, and nothing more is sent.
    closing = chance.choice([0, 40])
    for number in range(length + closing):
        steps = world.steps(place) + [("send",), ("table",)] * 2
        if number >= length:
            steps = [step for step in steps if step[0] in ("table", "block")]
        step = chance.choice([step for step in steps if step[0] != "cancel" or chance.random() < 0.1])
        try:
            after = world.go(place, step)
        except Broken:
            return order + [step], None
        if after is not None:
            order.append(step)
            place = after
    if chance.random() < 0.3:
        order += chance.choice([[("tell", 0)], [("block", 9)], [("table",), ("table",)], [("tell", 99)], [("send",)] * 3])
    return order, place
