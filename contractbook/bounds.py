"""What holds in all futures of a market."""

from math import gcd

from contractbook.going import owed
from contractbook.search import Least, Mean, Same
from contractbook.strands import Strands
from contractbook.sums import added, scaled
from contractbook.ways import Ways


def bounds(contract, market, side, good):
    """The least and the most that a side comes to of a good, each with a future in which it does."""
    strands = Strands(side, good)
    total = strands.sum_of(contract)
    ways = Ways(strands, market)
    least, low = _least(ways, total, market.last)
    most, high = _least(ways, scaled(total, -1), market.last)
    return least, ways.future(low), -most, ways.future(high)


def worth(contract, market, side, good):
    """The mean of what a side comes to of a good in all futures, by their weights."""
    strands = Strands(side, good)
    ways = Ways(strands, market)
    mean = Mean(ways)
    top = 0
    for part, count, numbers in ways.strands_of(strands.sum_of(contract), 0, ways.first):
        top += count * mean.of(0, part, len(part.names), numbers)
    bottom = mean.weights[market.last]
    common = gcd(top, bottom)
    return top // common, bottom // common


def stock(contract, market, side, good):
    """The least number of a good that never falls short, and a future in which it is just enough."""
    strands = Strands(side, good)
    total = strands.sum_of(contract)
    ways = Ways(strands, market)
    lowest, pins = 0, {}
    for hour in range(market.last + 1):
        least, low = _least(ways, total, hour)
        if least < lowest:
            lowest, pins = least, low
    return -lowest, ways.future(pins)


def apart(one, other, market):
    """A future in which two contracts don't owe the same, or None where there is none."""
    strands = Strands()
    # What both owe goes both ways round in this sum: it gives something just where they owe unlike.
    total = added(strands.sum_of(one), strands.sum_of(other), -1)
    ways = Ways(strands, market)
    same = Same(ways)
    given = {}
    for part, numbers in ways.parts_of(total, 0, ways.first):
        found = same.of(0, part, len(part.names), numbers)
        if found is None:
            return _parted(one, other, ways, same)
        given = added(given, found)
    return ways.future({}) if given else None


def _least(ways, total, end):
    """The least that a sum gives up to the end of an hour, and the pins of a future in which it does."""
    parts = ways.parts_of(total, 0, ways.first)
    least = Least(ways, end)
    low = sum([least.of(0, part, len(part.names), numbers) for part, numbers in parts])
    return low, least.pins(parts)


def _parted(one, other, ways, same):
    """A future in which two contracts don't owe the same, where what is given is not the same in all futures."""
    pin, first, second = same.fork
    future = ways.future({**same.path, pin: first})
    # What is given is not the same in these two futures, so that in one of them at least it is not nothing.
    if owed(one, future) != owed(other, future):
        return future
    return ways.future({**same.path, pin: second})
