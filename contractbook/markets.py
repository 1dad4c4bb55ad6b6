"""Markets: what may be read in their hours, and the futures in which it comes."""

from contractbook.errors import BadMarket, TooMany
from contractbook.plain import is_amount, is_between, is_word

LAST_HOUR = 12
MOST_NAMES = 3
MOST_STEPS = 4
MOST_WEIGHT = 999
MOST_FUTURES = 2000


class Market:
    """A market."""

    def __init__(self, last, names):
        if not is_between(last, 0, LAST_HOUR):
            raise BadMarket("a market has hours 0 to 12 at most")
        _need_names(names)
        self.last = last
        self.names = tuple([(name, number, tuple(steps)) for name, number, steps in names])

    def futures(self):
        """All futures with their weights, in their order."""
        if self._count() > MOST_FUTURES:
            raise TooMany("there are more futures than are told")
        ways = [([self._first()], 1)]
        for _ in range(self.last):
            ways = [
                (numbers + [after], weight * times)
                for numbers, weight in ways
                for after, times in self._moved(numbers[-1])
            ]
        return [([self._row(numbers) for numbers in way], weight) for way, weight in ways]

    def is_future(self, rows):
        """Whether rows are a future of this market."""
        if len(rows) != self.last + 1 or not all([self._has_names(row) for row in rows]):
            return False
        if rows[0] != self.first_row():
            return False
        return all([self._leads(before, after) for before, after in zip(rows, rows[1:])])

    def first_row(self):
        """What is read at hour 0."""
        return self._row(self._first())

    def _first(self):
        """The numbers at hour 0, in the order of the names."""
        return [number for name, number, steps in self.names]

    def _row(self, numbers):
        """The row with these numbers."""
        return {name: number for (name, first, steps), number in zip(self.names, numbers)}

    def _count(self):
        """How many futures there are."""
        count = 1
        for _ in range(self.last):
            for name, number, steps in self.names:
                count *= len(steps)
        return count

    def _moved(self, numbers):
        """What the numbers of one hour may be in the next one, with weights, in the order of the first unlike step."""
        ways = [([], 1)]
        for (name, first, steps), number in zip(self.names, numbers):
            ways = [(after + [number + step], weight * times) for after, weight in ways for step, times in steps]
        return ways

    def _has_names(self, row):
        """Whether a row has just the names of this market."""
        return len(row) == len(self.names) and all([name in row for name, number, steps in self.names])

    def _leads(self, before, after):
        """Whether steps lead from a row to another one."""
        changes = [(after[name] - before[name], steps) for name, number, steps in self.names]
        return all([change in [step for step, weight in steps] for change, steps in changes])


def _need_names(names):
    """Refuse what no market can have as its names."""
    if not isinstance(names, list) or len(names) > MOST_NAMES:
        raise BadMarket("the names are a list of three at most")
    for told in names:
        if not isinstance(told, tuple) or len(told) != 3:
            raise BadMarket("a name is told by a tuple (name, number, steps)")
        name, number, steps = told
        if not is_word(name) or not is_amount(number):
            raise BadMarket("a name is a word with a number at hour 0")
        _need_steps(steps)
    if len(set([told[0] for told in names])) < len(names):
        raise BadMarket("no name stands twice")


def _need_steps(steps):
    """Refuse what no name can have as its steps."""
    if not isinstance(steps, list) or not 1 <= len(steps) <= MOST_STEPS:
        raise BadMarket("the steps of a name are a list of one to four")
    for told in steps:
        if not isinstance(told, tuple) or len(told) != 2:
            raise BadMarket("a step is a tuple (number, weight)")
        number, weight = told
        if not is_amount(number) or not is_between(weight, 1, MOST_WEIGHT):
            raise BadMarket("a step is a number with a weight from 1 to 999")
    if len(set([told[0] for told in steps])) < len(steps):
        raise BadMarket("no two steps of a name are alike")
