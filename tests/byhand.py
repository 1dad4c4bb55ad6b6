"""What contracts owe and what holds in all futures, told the long way, to hold the program against.

Here each contract is followed with its hours as they are, each future is looked at one by one, and nothing is shared.
"""

import math
from fractions import Fraction
from itertools import product


def number(told, row):
    word = told[0]
    if word == "num":
        return told[1]
    if word == "read":
        return row[told[1]]
    first, second = number(told[1], row), number(told[2], row)
    return {
        "plus": first + second,
        "minus": first - second,
        "times": first * second,
        "most": max(first, second),
        "least": min(first, second),
    }[word]


def condition(asked, row):
    word = asked[0]
    if word == "below":
        return number(asked[1], row) < number(asked[2], row)
    if word == "not":
        return not condition(asked[1], row)
    first, second = condition(asked[1], row), condition(asked[2], row)
    return first and second if word == "all" else first or second


def first_hour(asked, rows, hour):
    """The first hour, from this one on, at which a condition holds; behind the last row where there is none."""
    return next((at for at in range(hour, len(rows)) if condition(asked, rows[at])), len(rows))


def gifts(contract, rows, hour=0):
    """All that is given, as tuples (hour, one, other, good, many), with many below nought too."""
    if hour >= len(rows):
        return []
    word = contract[0]
    if word == "none":
        return []
    if word == "give":
        return [(hour,) + contract[1:4] + (number(contract[4], rows[hour]),)]
    if word == "both":
        return gifts(contract[1], rows, hour) + gifts(contract[2], rows, hour)
    if word == "turned":
        exchange = {contract[1]: contract[2], contract[2]: contract[1]}
        return [(at, exchange.get(one, one), exchange.get(other, other), good, many)
                for at, one, other, good, many in gifts(contract[3], rows, hour)]
    if word == "later":
        return gifts(contract[2], rows, hour + contract[1])
    if word == "often":
        return [gift for time in range(contract[1]) for gift in gifts(contract[3], rows, hour + time * contract[2])]
    if word == "if":
        return gifts(contract[2] if condition(contract[1], rows[hour]) else contract[3], rows, hour)
    at = first_hour(contract[1], rows, hour)
    if word == "when":
        return gifts(contract[2], rows, at)
    return [gift for gift in gifts(contract[2], rows, hour) if gift[0] < at]


def owed(contract, rows):
    """What is owed, set off."""
    total = {}
    for hour, one, other, good, many in gifts(contract, rows):
        total[hour, one, other, good] = total.get((hour, one, other, good), 0) + many
        total[hour, other, one, good] = total.get((hour, other, one, good), 0) - many
    return sorted(place + (many,) for place, many in total.items() if many > 0)


def futures(last, names):
    """All futures of a market with their weights, in their order."""
    found = []
    for way in product(*[steps for _ in range(last) for _, _, steps in names]):
        rows = [{name: first for name, first, _ in names}]
        weight = 1
        for hour in range(last):
            moves = way[hour * len(names):(hour + 1) * len(names)]
            rows.append({name: rows[-1][name] + step for (name, _, _), (step, _) in zip(names, moves)})
            weight *= math.prod(times for _, times in moves)
        found.append((rows, weight))
    return found


def comes_by_hour(contract, rows, side, good):
    """What a side comes to of a good in each hour."""
    found = [0] * len(rows)
    for hour, one, other, what, many in owed(contract, rows):
        if what == good:
            found[hour] += many * ((side == other) - (side == one))
    return found


def comes_to(contract, rows, side, good):
    return sum(comes_by_hour(contract, rows, side, good))


def lowest(contract, rows, side, good):
    """The least that a side has come to behind some hour."""
    by_hour = comes_by_hour(contract, rows, side, good)
    return min(sum(by_hour[:hour + 1]) for hour in range(len(rows)))


def mean(contract, ways, side, good):
    total = sum(comes_to(contract, rows, side, good) * weight for rows, weight in ways)
    found = Fraction(total, sum(weight for _, weight in ways))
    return found.numerator, found.denominator


def spans(contract, last, names, side, good):
    """Between what the side comes to in each hour, told hour by hour and each time anew from the first hour on."""
    ends = [
        {name: sorted(first + hour * move for move in (min(moves)[0], max(moves)[0])) for name, first, moves in names}
        for hour in range(last + 1)
    ]
    return [span(contract, 0, hour, side, good, ends) for hour in range(last + 1)]


def span(contract, begin, hour, side, good, ends):
    """Between what the side comes to at an hour by a contract that begins at another one."""
    word = contract[0]
    if begin > hour or word == "none":
        return (0, 0)
    if word == "give":
        one, other, what, told = contract[1:]
        if begin < hour or what != good or side not in (one, other):
            return (0, 0)
        low, high = number_span(told, ends[hour])
        return (low, high) if side == other else (-high, -low)
    if word == "both":
        return summed(span(part, begin, hour, side, good, ends) for part in contract[1:])
    if word == "turned":
        exchange = {contract[1]: contract[2], contract[2]: contract[1]}
        return span(contract[3], begin, hour, exchange.get(side, side), good, ends)
    if word == "later":
        return span(contract[2], begin + contract[1], hour, side, good, ends)
    if word == "often":
        begins = [begin + time * contract[2] for time in range(contract[1])]
        return summed(span(contract[3], at, hour, side, good, ends) for at in begins)
    if word == "if":
        can_hold, can_fail = cans(contract[1], ends[begin])
        found = [span(contract[2], begin, hour, side, good, ends)] if can_hold else []
        return covered(found + ([span(contract[3], begin, hour, side, good, ends)] if can_fail else []))
    all_cans = [cans(contract[1], row) for row in ends]
    sure = next((at for at in range(begin, len(ends)) if not all_cans[at][1]), len(ends))
    may = [at for at in range(begin, min(sure + 1, len(ends))) if all_cans[at][0]]
    if word == "when":
        found = [span(contract[2], at, hour, side, good, ends) for at in may]
        return covered(found + ([(0, 0)] if sure == len(ends) else []))
    if hour >= sure:
        return (0, 0)
    inner = span(contract[2], begin, hour, side, good, ends)
    return covered([inner, (0, 0)]) if may and hour >= may[0] else inner


def summed(found):
    found = list(found)
    return sum(low for low, _ in found), sum(high for _, high in found)


def covered(found):
    return min(low for low, _ in found), max(high for _, high in found)


def number_span(told, row):
    if told[0] == "num":
        return told[1], told[1]
    if told[0] == "read":
        return tuple(row[told[1]])
    ones, others = number_span(told[1], row), number_span(told[2], row)
    found = [number((told[0], ("num", one), ("num", other)), {}) for one, other in product(ones, others)]
    return min(found), max(found)


def cans(asked, row):
    """Whether a condition can hold, and whether it can fail."""
    if asked[0] == "below":
        (low, high), (other_low, other_high) = number_span(asked[1], row), number_span(asked[2], row)
        return low < other_high, high >= other_low
    parts = [cans(part, row) for part in asked[1:]]
    if asked[0] == "not":
        return parts[0][::-1]
    holds, fails = zip(*parts)
    return (all(holds), any(fails)) if asked[0] == "all" else (any(holds), all(fails))


def all_within(contract):
    """A contract and all within."""
    inner = [part for part in contract[1:] if isinstance(part, tuple)]
    if contract[0] == "give":
        return [contract]
    if contract[0] in ("if", "when", "until"):
        inner = inner[1:]
    return [contract] + [found for part in inner for found in all_within(part)]
