"""A log as its sender sees it: which of its events may be sent, and what holds behind them."""

from fieldtable.blocks import read_block
from fieldtable.errors import NoAnswer, NoLog, NoOctets
from fieldtable.instructions import read_answer, read_instruction
from fieldtable.octets import check_setting
from fieldtable.orders import check_log
from fieldtable.senders import Account
from fieldtable.tables import Table, said_fields

# What can be said of an event.
GOOD = "good"
UNHEARD = "an answer that cannot take place"
BROKEN = "cannot be read or carried out"
HOLDING = "held entries leave"
CROWDED = "too many streams may wait"


def checked_course(setting, log):
    """The course of a log up to its first bad event; NoAnswer for an answer ahead of that which cannot take place."""
    check_setting(setting)
    check_log(log)
    course = Course(setting)
    for number, event in enumerate(log):
        course.follow(event)
        if course.verdict == UNHEARD:
            raise NoAnswer(number)
        if course.verdict != GOOD:
            break
    return course


def good_course(setting, log):
    """The course of a log; NoLog if the log is not good."""
    course = checked_course(setting, log)
    if course.verdict != GOOD:
        raise NoLog("this log is not good")
    return course


class Course:
    """What a sender keeps behind the good events of a log, and what is said of the event that it was shown last."""

    def __init__(self, setting):
        self.setting = setting
        self.table = Table(setting)
        self.account = Account()
        self.verdict = GOOD
        # (count, known, held, may_wait) behind each good event.
        self.rows = []

    def follow(self, event):
        """Go on behind an event if it is good."""
        if event[0] == "table":
            self.verdict = self.follow_table(event[1])
        elif event[0] == "block":
            self.verdict = self.follow_block(event[1], event[2])
        else:
            self.verdict = self.follow_answer(event[1])
        if self.verdict == GOOD:
            self.rows.append(self.row())

    def row(self):
        """(count, known, held, may_wait) as it is now."""
        account = self.account
        return (self.table.made, account.heard, tuple(account.held_numbers()), tuple(account.waiting_streams()))

    def follow_table(self, octets):
        """Carry an instruction out if it is good, and say what it is."""
        table = self.table_behind(octets)
        if table is None:
            return BROKEN
        held = self.account.held_numbers()
        if any([number in held for number in self.leaving(table)]):
            return HOLDING
        self.table = table
        return GOOD

    def table_behind(self, octets):
        """The table behind an instruction, or None if it cannot be read or carried out."""
        table = self.table.copied()
        try:
            instruction = read_instruction(octets)
        except NoOctets:
            return None
        if not table.carry_out(instruction):
            return None
        return table

    def leaving(self, table):
        """The numbers of the entries that are not there any more in a later table."""
        return [number for number in self.table.kept if number not in table.kept]

    def follow_block(self, stream, octets):
        """Send a block if it is good, and say what it is."""
        # The receiver has cancelled the stream by now, and ignores whatever comes.
        if stream in self.account.cancelled:
            return GOOD
        account = self.account_behind(stream, octets)
        if account is None:
            return BROKEN
        if len(account.waiting_streams()) > self.setting[2]:
            return CROWDED
        self.account = account
        return GOOD

    def account_behind(self, stream, octets):
        """The account behind a block, or None if it cannot be read, also when all instructions arrived ahead of it."""
        try:
            block = read_block(octets)
        except NoOctets:
            return None
        if block[0] > self.table.made or said_fields(self.setting[0], self.table.kept, block[2]) is None:
            return None
        account = self.account.copied()
        account.send(stream, block)
        return account

    def follow_answer(self, octets):
        """Take an answer if it can take place, and say what it is."""
        try:
            answer = read_answer(octets)
        except NoOctets:
            return UNHEARD
        if not self.account.hear(answer, self.table.made):
            return UNHEARD
        return GOOD
