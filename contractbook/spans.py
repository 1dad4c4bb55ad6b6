"""Between which numbers a side comes to in each hour, by the spans of what is read.

A span is a pair (low, high). A course is a list of spans, one for each hour of the market, of a contract that begins at
some hour; a contract has one for each hour at which it may begin.
"""

from contractbook.contracts import contracts_in, turned_side
from contractbook.seen import reckoned

NOTHING = (0, 0)


def spans(contract, market, side, good):
    """For each hour a span in which lies what a side comes to of a good by what is owed in that hour."""
    rows = [_row_of(market, hour) for hour in range(market.last + 1)]
    return list(_courses(contract, rows, side, good)[0])


def _row_of(market, hour):
    """The spans of what may be read at an hour, by names."""
    row = {}
    for name, number, steps in market.names:
        moves = [step for step, weight in steps]
        row[name] = (number + hour * min(moves), number + hour * max(moves))
    return row


def _courses(contract, rows, side, good):
    """The courses of a contract, by the hours at which it may begin."""
    word = contract[0]
    if word == "none":
        return [_nothing(rows) for _ in rows]
    if word == "give":
        return [_given(contract, rows, hour, side, good) for hour in range(len(rows))]
    if word == "turned":
        return _courses(contract[3], rows, turned_side(side, contract[1], contract[2]), good)
    inner = [_courses(part, rows, side, good) for part in contracts_in(contract)]
    if word == "both":
        return [_summed([one, other], rows) for one, other in zip(inner[0], inner[1])]
    if word == "later":
        return _repeated(1, contract[1], 0, inner[0])
    if word == "often":
        return _repeated(contract[1], 0, contract[2], inner[0])
    cans = [_can(contract[1], row) for row in rows]
    if word == "if":
        return [_chosen(can, one, other) for can, one, other in zip(cans, inner[0], inner[1])]
    if word == "when":
        return _awaited(cans, inner[0])
    return [_ended(cans[hour:], hour, course) for hour, course in enumerate(inner[0])]


def _nothing(rows):
    """The course of what gives nothing."""
    return [NOTHING for _ in rows]


def _given(give, rows, hour, side, good):
    """The course of a give that begins at an hour."""
    course = _nothing(rows)
    if give[3] == good and side in (give[1], give[2]):
        low, high = _span_of(give[4], rows[hour])
        course[hour] = (low, high) if side == give[2] else (-high, -low)
    return course


def _repeated(times, wait, gap, courses):
    """The courses of what begins so many times, the first time behind a wait, each next time behind a gap."""
    # Less than nought is not within what a contract may tell, but it is no earlier than now.
    hours = [max(0, wait) + more * max(0, gap) for more in range(times)]
    return [
        _summed([courses[begin + hour] for hour in hours if begin + hour < len(courses)], courses)
        for begin in range(len(courses))
    ]


def _chosen(can, one, other):
    """The course of the only one of two contracts that can begin, or what covers both."""
    can_hold, can_fail = can
    if can_hold and can_fail:
        return _covering(one, other)
    return one if can_hold else other


def _awaited(cans, courses):
    """The courses of what begins at the first hour at which a condition holds."""
    found = []
    course = _nothing(courses)
    # From the last hour back, so that the course behind an hour is what comes where the condition fails at it.
    for hour in reversed(range(len(courses))):
        course = _chosen(cans[hour], courses[hour], course)
        found.append(course)
    return found[::-1]


def _ended(cans, begin, course):
    """The course of what begins at an hour and is ended by a condition; whether this can hold is told from then on."""
    found = course[:begin]
    may_end, must_end = False, False
    for (can_hold, can_fail), span in zip(cans, course[begin:]):
        may_end = may_end or can_hold
        must_end = must_end or not can_fail
        if must_end:
            found.append(NOTHING)
        else:
            found.append(_cover(span, NOTHING) if may_end else span)
    return found


def _summed(courses, rows):
    """The course of all of these together."""
    return [
        (sum([course[hour][0] for course in courses]), sum([course[hour][1] for course in courses]))
        for hour in range(len(rows))
    ]


def _covering(one, other):
    """The course that covers two of them."""
    return [_cover(first, second) for first, second in zip(one, other)]


def _cover(one, other):
    """The span that covers two of them."""
    return min(one[0], other[0]), max(one[1], other[1])


def _can(asked, row):
    """Whether a condition can hold, and whether it can fail, by a row of spans."""
    word = asked[0]
    if word == "below":
        one, other = _span_of(asked[1], row), _span_of(asked[2], row)
        return one[0] < other[1], one[1] >= other[0]
    can_hold, can_fail = _can(asked[1], row)
    if word == "not":
        return can_fail, can_hold
    other_holds, other_fails = _can(asked[2], row)
    if word == "all":
        return can_hold and other_holds, can_fail or other_fails
    return can_hold or other_holds, can_fail and other_fails


def _span_of(told, row):
    """The span of a number by a row of spans."""
    word = told[0]
    if word == "num":
        return told[1], told[1]
    if word == "read":
        return row[told[1]]
    one, other = _span_of(told[1], row), _span_of(told[2], row)
    ends = [reckoned(word, first, second) for first in one for second in other]
    return min(ends), max(ends)
