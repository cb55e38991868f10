"""A slow sender for tests: it keeps what was sent and answered, and works out anew what holds behind it.

It is told what a sender sent, and judges whether the sender might send this.
"""

from fieldtable.blocks import read_block
from fieldtable.errors import BadAnswer, Held, NoNumber, TooGreat
from fieldtable.instructions import is_instruction, read_answer, read_instruction, write_instruction
from tests.slow_reader import bad_place
from tests.slow_search import fewest_line_by_line
from tests.slow_table import size, slow_says, slow_table


class SlowSender:
    def __init__(self, setting):
        self.setting = setting
        self.instructions = []
        # Blocks and answers in their order, as ("block", stream, block) and ("answer", answer).
        self.events = []

    def table(self):
        count, entries, limit, bad, left = slow_table(self.setting, self.instructions)
        assert bad is None
        return count, entries, limit, left

    def account(self):
        """(blocks that are open as (stream, required, entries), insertions known, streams that were cancelled)"""
        opened, known, cancelled = [], 0, []
        for event in self.events:
            if event[0] == "block":
                _, stream, (required, _, lines) = event
                if required:
                    opened.append((stream, required, {line[1] for line in lines if line[0] == "entry"}))
                continue
            kind, number = event[1]
            if kind == "received":
                known += number
            elif kind == "cancelled":
                cancelled.append(number)
                opened = [row for row in opened if row[0] != number]
            else:
                row = next(row for row in opened if row[0] == number)
                opened.remove(row)
                known = max(known, row[1])
        return opened, known, cancelled

    def held(self):
        return tuple(sorted(set().union(*[numbers for _, _, numbers in self.account()[0]])))

    def may_wait(self):
        opened, known, _ = self.account()
        return tuple(sorted({stream for stream, required, _ in opened if required > known}))

    def state(self):
        count, entries, _, _ = self.table()
        return self.held(), self.may_wait(), self.account()[1], count, entries

    def refusal(self, instruction):
        """The class of the error for an instruction of an entry or limit that there is, or None."""
        count, _, limit, left = self.table()
        if instruction[0] == "limit":
            if instruction[1] > self.setting[1]:
                return TooGreat
        elif size(self.inserted(instruction)) > limit or count == 9999:
            return TooGreat
        leaving = slow_table(self.setting, self.instructions + [instruction])[4][len(left):]
        return Held if set(leaving) & set(self.held()) else None

    def inserted(self, instruction):
        """The field that an instruction inserts, if it could be of any size; None if it has no such source."""
        count, entries, _, _ = self.table()
        if instruction[0] == "new":
            return instruction[1:]
        if instruction[0] == "fixed":
            there = dict(enumerate(self.setting[0])).get(instruction[1])
        else:
            there = entries.get(count - 1 - instruction[1])
        if there is None or instruction[0] == "again":
            return there
        return (there[0], instruction[2])

    def fewest_for(self, field):
        """The fewest octets of an instruction that inserts this field, found by trying all."""
        tried = [("new",) + field]
        for number in range(40):
            tried += [("again", number), ("entry", number, field[1]), ("fixed", number, field[1])]
        assert all(is_instruction(instruction) for instruction in tried)
        return min(len(write_instruction(each)) for each in tried if self.inserted(each) == field)

    def may_require(self, stream):
        """The most that a block on this stream may require now."""
        _, known, cancelled = self.account()
        if stream in cancelled:
            return 0
        if len(set(self.may_wait()) | {stream}) <= self.setting[2]:
            return self.table()[0]
        return known

    def best_lengths(self, stream, fields):
        """The fewest octets of a block on this stream for each required that it may have."""
        entries = self.table()[1]
        return {
            required: min(
                fewest_line_by_line(self.setting[0], entries, fields, required, base) for base in range(required + 1)
            )
            for required in range(self.may_require(stream) + 1)
        }

    def split(self, octets):
        """The answers in these octets, each tried as well; BadAnswer for the first that cannot be."""
        answers, rest = [], []
        for octet in octets:
            rest.append(octet)
            place = bad_place("answer", rest)
            if place is None:
                answers.append(read_answer(rest))
                self.try_answers(answers)
                rest = []
            elif place < len(rest):
                raise BadAnswer(len(answers))
        if rest:
            raise BadAnswer(len(answers))
        return answers

    def try_answers(self, answers):
        """BadAnswer for the last of these, if it cannot be behind the others."""
        kept = self.events
        self.events = kept + [("answer", answer) for answer in answers[:-1]]
        opened, known, cancelled = self.account()
        self.events = kept
        kind, number = answers[-1]
        fits = {
            "received": known + number <= self.table()[0],
            "cancelled": number not in cancelled,
            "done": number in [stream for stream, _, _ in opened],
        }
        if not fits[kind]:
            raise BadAnswer(len(answers) - 1)

    def expected(self, name, *arguments):
        """The error that a call has to raise, or None; the arguments are of the right kinds."""
        if name == "insert":
            return self.made(self.refusal(("new",) + arguments[0]))
        if name == "again":
            count, entries, _, _ = self.table()
            if arguments[0] not in entries:
                return NoNumber("")
            return self.made(self.refusal(("again", count - 1 - arguments[0])))
        if name == "limit":
            return self.made(self.refusal(("limit", arguments[0])))
        if name == "answer":
            try:
                self.split(*arguments)
            except BadAnswer as error:
                return error
        return None

    def made(self, error):
        return error and error("")

    def judge(self, test, name, arguments, result):
        """Check what a call returned that raised no error, and note it."""
        if name == "answer":
            test.assertIsNone(result)
            self.events.extend(("answer", answer) for answer in self.split(*arguments))
        elif name == "block":
            self.judge_block(test, *arguments, result)
        else:
            instruction = read_instruction(result)
            if name == "limit":
                test.assertEqual(instruction, ("limit", arguments[0]))
            elif name == "again":
                test.assertEqual(instruction, ("again", self.table()[0] - 1 - arguments[0]))
            else:
                test.assertEqual(self.inserted(instruction), arguments[0])
                test.assertEqual(len(result), self.fewest_for(arguments[0]))
            self.instructions.append(instruction)

    def judge_block(self, test, stream, fields, octets):
        block = read_block(octets)
        test.assertEqual(slow_says(self.setting[0], self.table()[1], block[2]), fields)
        lengths = self.best_lengths(stream, fields)
        fewest = min(lengths.values())
        test.assertEqual(len(octets), fewest)
        test.assertEqual(block[0], min(required for required in lengths if lengths[required] == fewest))
        self.events.append(("block", stream, block))
        test.assertLessEqual(len(self.may_wait()), self.setting[2])


def sender_state(sender):
    """What a sender shows, in the form of SlowSender.state."""
    return sender.held(), sender.may_wait(), sender.known(), sender.count(), sender.entries()


def slow_ledger(setting, log):
    """The ledger of a good log, worked out anew behind each event."""
    slow, gone, rows = SlowSender(setting), [], []
    for event in log:
        if event[0] == "table":
            slow.instructions.append(read_instruction(event[1]))
        elif event[0] == "answer":
            answer = read_answer(event[1])
            slow.events.append(("answer", answer))
            if answer[0] == "cancelled":
                gone.append(answer[1])
        elif event[1] not in gone:
            slow.events.append(("block", event[1], read_block(event[2])))
        held, may_wait, known, count, _ = slow.state()
        rows.append((count, known, held, may_wait))
    return rows
