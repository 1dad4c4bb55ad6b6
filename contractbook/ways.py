"""The ways in which sums of strands can go on in a market.

A part is a sum of strands that read names in common, straight or through one another. What the parts of one hour come
to doesn't hang together, since no name is read by two of them: each of them is followed on its own, with the numbers
of its own names alone. From one hour to the next its names move one by one, so that ways which meet are followed once.
"""

from contractbook.strands import joined_names


class Part:
    """Strands that are followed together."""

    def __init__(self, total, names):
        self.total = total
        self.names = names


class Ways:
    """The ways of some strands in a market."""

    def __init__(self, strands, market):
        self.strands = strands
        self.last = market.last
        self.first = market.first_row()
        self._steps = {name: steps for name, number, steps in market.names}
        self._parts = {}

    def parts_of(self, total, hour, row):
        """The parts of a sum that begins at an hour, but for what gives nothing in time, with numbers from a row."""
        groups = []
        for strand, count in sorted(total.items()):
            known = self.strands.known[strand]
            if known.wait <= self.last - hour:
                groups = _grouped(groups, known.reads, (strand, count))
        found = []
        for pairs, reads in groups:
            # In the order of the market, so that what is found doesn't hang on how its names are called.
            names = [name for name in self._steps if name in reads]
            found.append((self._part(pairs, names), tuple([row[name] for name in names])))
        return found

    def strands_of(self, total, hour, row):
        """The same with each strand as a part of its own, with how many times it is there and the numbers."""
        return [
            (part, count, numbers)
            for strand, count in total.items()
            for part, numbers in self.parts_of({strand: 1}, hour, row)
        ]

    def moves(self, part, moved, numbers):
        """What the numbers may be when one name more has moved, each with the weight of the step."""
        ahead, number, behind = numbers[:moved], numbers[moved], numbers[moved + 1:]
        steps = self._steps[part.names[moved]]
        return [(ahead + (number + step,) + behind, weight) for step, weight in steps]

    def run(self, part, numbers):
        """What a part gives in an hour, what it leaves, and the row of its names."""
        row = dict(zip(part.names, numbers))
        amounts, left = self.strands.run(part.total, row)
        return amounts, left, row

    def weight_beside(self, names):
        """The weight of all steps from one hour to the next of the names other than these."""
        weight = 1
        for name, steps in self._steps.items():
            if name not in names:
                weight *= sum([times for step, times in steps])
        return weight

    def future(self, pins):
        """A future in which names have the numbers that are pinned to an hour and a name, and any others else."""
        rows = [dict(self.first)]
        for hour in range(1, self.last + 1):
            before = rows[-1]
            rows.append({
                name: pins.get((hour, name), number + self._steps[name][0][0])
                for name, number in before.items()
            })
        return rows

    def _part(self, pairs, names):
        """The part of these strands, which is one and the same each time."""
        key = tuple(sorted(pairs))
        if key not in self._parts:
            self._parts[key] = Part(dict(key), names)
        return self._parts[key]


def _grouped(groups, names, pair):
    """Groups of pairs with their names, and one pair more, which joins all groups that have one of its names."""
    pairs = [pair]
    all_names = names
    others = []
    for group in groups:
        if any([name in names for name in group[1]]):
            pairs = pairs + group[0]
            all_names = joined_names(all_names, group[1])
        else:
            others.append(group)
    return others + [(pairs, all_names)]
