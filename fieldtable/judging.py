"""What every order for a log has in common: whether it works, what the sender knows, how many streams wait."""

from fieldtable.courses import CROWDED, GOOD, HOLDING, checked_course, good_course
from fieldtable.plays import blocks_early, blocks_last


def judge(setting, log):
    """("good",), or ("bad", the first bad event, an order for the events up to it that fails)."""
    course = checked_course(setting, log)
    if course.verdict == GOOD:
        return ("good",)
    event = len(course.rows)
    if course.verdict == CROWDED:
        return ("bad", event, blocks_early(setting, log, event + 1))
    return ("bad", event, blocks_last(setting, log, event + 1))


def ledger(setting, log):
    """(count, known, held, may_wait) behind each event of a good log."""
    return good_course(setting, log).rows


def repair(setting, log):
    """The first bad event and the answers ahead of it with which it is good, or None if answers do not help."""
    course = checked_course(setting, log)
    event = len(course.rows)
    if course.verdict == HOLDING:
        return (event, releasing_answers(course, log[event][1]))
    if course.verdict == CROWDED:
        return (event, [("received", missing_insertions(course, log[event][1], log[event][2]))])
    return None


def releasing_answers(course, octets):
    """The fewest answers behind which no open block refers to an entry that leaves by an instruction."""
    leaving = course.leaving(course.table_behind(octets))
    opened = course.account.opened
    answers = []
    for stream in sorted(opened):
        places = [place for place, (_, numbers) in enumerate(opened[stream]) if have_common(numbers, leaving)]
        answers.extend([("done", stream)] * (max(places, default=-1) + 1))
    return answers


def have_common(numbers, others):
    """Whether a number is in both lists."""
    return any([number in others for number in numbers])


def missing_insertions(course, stream, octets):
    """How many insertions more have to be known, so that few enough streams may wait behind a block."""
    account = course.account_behind(stream, octets)
    greatest = [max([required for required, _ in blocks]) for blocks in account.opened.values()]
    # As many streams as may wait can require more than is known; the next one must not.
    return sorted(greatest, reverse=True)[course.setting[2]] - account.heard


def widest(setting, log):
    """The most streams that wait behind any order for a good log, and such an order."""
    most = 0
    many = 0
    for number, row in enumerate(good_course(setting, log).rows):
        if len(row[3]) > most:
            most = len(row[3])
            many = number + 1
    return (most, blocks_early(setting, log, many))
