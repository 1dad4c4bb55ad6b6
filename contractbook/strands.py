"""Contracts as sums of strands, and what strands give and leave, hour by hour.

A strand is one way down through a contract to one of its gives: all the waits and conditions that stand ahead of that
give. What a word of a contract makes of two contracts together is what it makes of each of them, put together; so a
contract is a sum of strands. A strand that comes from several places stands in the sum once, so many times as it
comes, and what would go both ways round isn't there at all. So what is left of a contract stays small, and much that
is told otherwise becomes alike.
"""

from contractbook.contracts import NONE
from contractbook.seen import holds, names_in, number_of
from contractbook.sums import add, added, scaled

ONE = ("num", 1)


class Strand:
    """What is known of a strand."""

    def __init__(self, form, place, reads, now, wait):
        # The word, what follows it, and last the strand within. Numbers and conditions stand in it as texts.
        self.form = form
        # Where the give counts: two sides and a good.
        self.place = place
        # The names that it reads at any hour, and those that it may read in its first one.
        self.reads = reads
        self.now = now
        # The hours that surely pass before anything is given.
        self.wait = wait


class Strands:
    """All strands that were met so far, each told by its place in a list: of all gives, or as one side sees a good."""

    def __init__(self, side=None, good=None):
        self.side = side
        self.good = good
        self.known = []
        self._met = {}
        self._told = {}
        self._begun = {}

    def sum_of(self, contract):
        """A contract as a sum of strands."""
        return self._sum_of(contract, {})

    def run(self, total, row):
        """What a sum of strands gives in its first hour, as a sum of places, and what it leaves, as one of strands."""
        amounts = {}
        left = {}
        for strand, count in total.items():
            amount, rest = self._begin(strand, row)
            add(amounts, self.known[strand].place, amount * count)
            for inner, times in rest.items():
                add(left, inner, times * count)
        return amounts, left

    def contract_of(self, total):
        """A contract that is this sum of strands of all gives."""
        return _joined([self._contract_of(strand, count) for strand, count in sorted(total.items())])

    def _sum_of(self, contract, turns):
        """A contract as a sum of strands, with each side that is among the turns in the place of which they tell."""
        word = contract[0]
        if word == "none":
            return {}
        if word == "give":
            return self._given(contract, turns)
        if word == "both":
            return added(self._sum_of(contract[1], turns), self._sum_of(contract[2], turns))
        if word == "turned":
            return self._sum_of(contract[3], _exchanged(turns, contract[1], contract[2]))
        if word == "if":
            held = self._asking("if", self._text_of(contract[1]), self._sum_of(contract[2], turns))
            failed = self._asking("if", self._text_of(("not", contract[1])), self._sum_of(contract[3], turns))
            return added(held, failed)
        inner = self._sum_of(contract[-1], turns)
        if word == "later":
            return {self._later(contract[1], strand): count for strand, count in inner.items()}
        if word == "often":
            return self._repeated(contract[1], contract[2], inner)
        return self._asking(word, self._text_of(contract[1]), inner)

    def _given(self, give, turns):
        """A give as a sum of strands, one for each of the numbers of which its own one is the sum."""
        one = turns.get(give[1], give[1])
        other = turns.get(give[2], give[2])
        place, times = self._place_of(one, other, give[3])
        total = {}
        for number, count in _terms_of(give[4]):
            add(total, self._strand(("give", place, self._text_of(number))), count * times)
        return total

    def _place_of(self, one, other, good):
        """Where a give counts, and how many times what is given counts there."""
        if self.side is None:
            if one < other:
                return (one, other, good), 1
            return (other, one, good), -1
        # Who stands on the other hand does not matter to the side, so that it is told of nobody.
        place = ("", self.side, self.good)
        if good != self.good or self.side not in (one, other):
            return place, 0
        if other == self.side:
            return place, 1
        return place, -1

    def _repeated(self, times, gap, total):
        """A sum that begins so many times."""
        # Neither is within what a contract may tell, but it is plain what both come to.
        if times < 1:
            return {}
        if gap < 1:
            return scaled(total, times)
        return {self._often(times, gap, strand): count for strand, count in total.items()}

    def _asking(self, word, asked, total):
        """A sum that begins where a condition holds, or when it does, or is ended by it."""
        return {self._strand((word, asked, strand)): count for strand, count in total.items()}

    def _later(self, hours, strand):
        """A strand that begins so many hours later."""
        if hours < 1:
            return strand
        return self._strand(("later", hours, strand))

    def _often(self, times, gap, strand):
        """A strand that begins so many times, once or more."""
        if times == 1:
            return strand
        return self._strand(("often", times, gap, strand))

    def _strand(self, form):
        """The strand of this form, which is one and the same each time."""
        if form not in self._met:
            self._met[form] = len(self.known)
            self.known.append(self._made(form))
        return self._met[form]

    def _made(self, form):
        """A new strand."""
        word = form[0]
        if word == "give":
            names = names_in(self._told[form[2]])
            return Strand(form, form[1], names, names, 0)
        inner = self.known[form[-1]]
        if word == "later":
            return Strand(form, inner.place, inner.reads, [], inner.wait + form[1])
        if word == "often":
            return Strand(form, inner.place, inner.reads, inner.now, inner.wait)
        names = names_in(self._told[form[1]])
        return Strand(form, inner.place, joined_names(names, inner.reads), joined_names(names, inner.now), inner.wait)

    def _text_of(self, told):
        """A text that stands for a number or a condition, since these may be too deep to be keys themselves."""
        text = _text(told)
        self._told[text] = told
        return text

    def _begin(self, strand, row):
        """What a strand gives in its first hour, and the sum that it leaves."""
        seen = (strand, tuple([row[name] for name in self.known[strand].now]))
        if seen not in self._begun:
            self._begun[seen] = self._begin_anew(strand, row)
        return self._begun[seen]

    def _begin_anew(self, strand, row):
        """The same, reckoned."""
        form = self.known[strand].form
        word = form[0]
        if word == "give":
            return number_of(self._told[form[2]], row), {}
        if word == "later":
            return 0, {self._later(form[1] - 1, form[2]): 1}
        if word == "often":
            amount, rest = self._begin(form[3], row)
            again = self._later(form[2] - 1, self._often(form[1] - 1, form[2], form[3]))
            return amount, added(rest, {again: 1})
        return self._begin_asked(strand, row)

    def _begin_asked(self, strand, row):
        """The same of a strand that asks a condition first."""
        word, asked, inner = self.known[strand].form
        sure = holds(self._told[asked], row)
        if word == "until" and not sure:
            amount, rest = self._begin(inner, row)
            return amount, self._asking("until", asked, rest)
        if word != "until" and sure:
            return self._begin(inner, row)
        if word == "when":
            return 0, {strand: 1}
        return 0, {}

    def _contract_of(self, strand, count):
        """A contract that is so many times a strand."""
        form = self.known[strand].form
        word = form[0]
        if word == "give":
            one, other, good = form[1]
            if count < 0:
                one, other = other, one
            return ("give", one, other, good, _multiple(self._told[form[2]], abs(count)))
        inner = self._contract_of(form[-1], count)
        if word == "later":
            return ("later", form[1], inner)
        if word == "often":
            return ("often", form[1], form[2], inner)
        if word == "if":
            return ("if", self._told[form[1]], inner, NONE)
        return (word, self._told[form[1]], inner)


def joined_names(first, second):
    """The names of two lists, ascending, each once."""
    return sorted(set(first) | set(second))


def _exchanged(turns, one, other):
    """Turns that exchange two sides first."""
    found = dict(turns)
    found[one] = turns.get(other, other)
    found[other] = turns.get(one, one)
    return found


def _terms_of(told):
    """The numbers of which a number is the sum, each with how many times it goes in it."""
    word = told[0]
    if word == "num":
        return [(ONE, told[1])]
    if word == "plus":
        return _terms_of(told[1]) + _terms_of(told[2])
    if word == "minus":
        return _terms_of(told[1]) + _multiplied(_terms_of(told[2]), -1)
    if word == "times" and told[1][0] == "num":
        return _multiplied(_terms_of(told[2]), told[1][1])
    if word == "times" and told[2][0] == "num":
        return _multiplied(_terms_of(told[1]), told[2][1])
    return [(told, 1)]


def _multiplied(terms, times):
    """Each of these numbers so many times."""
    return [(number, count * times) for number, count in terms]


def _multiple(number, count):
    """A number that is so many times another one."""
    if number == ONE:
        return ("num", count)
    if count == 1:
        return number
    return ("times", ("num", count), number)


def _text(told):
    """A text that no other number or condition has."""
    parts = [f"({_text(part)})" if isinstance(part, tuple) else str(part) for part in told]
    return " ".join(parts)


def _joined(contracts):
    """All of these contracts as one, in which none stands deeper than it must."""
    if len(contracts) == 0:
        return NONE
    while len(contracts) > 1:
        pairs = [("both", one, other) for one, other in zip(contracts[::2], contracts[1::2])]
        contracts = pairs + contracts[2 * len(pairs):]
    return contracts[0]
