"""What holds in all futures, found hour by hour: the least, the mean, and whether there is but one.

Each of these follows parts from spots: an hour, a part, how many of its names have moved to that hour, and the numbers
of its names. What was found at a spot is kept, since many ways lead to it.
"""

from contractbook.sums import added


class Search:
    """What is found at spots, of one kind."""

    def __init__(self, ways):
        self.ways = ways
        self._found = {}

    def of(self, hour, part, moved, numbers):
        """What is found at a spot."""
        spot = (hour, part, moved, numbers)
        if spot not in self._found:
            self._found[spot] = self.anew(hour, part, moved, numbers)
        return self._found[spot]

    def anew(self, hour, part, moved, numbers):
        """The same, reckoned from what is found at the spots that come next."""
        raise NotImplementedError("each kind of search has its own")


class Least(Search):
    """The least that parts give in any future, from a spot on up to the end of an hour."""

    def __init__(self, ways, end):
        Search.__init__(self, ways)
        self.end = end

    def pins(self, parts):
        """The numbers, by hours and names, of a future in which parts that begin at hour 0 give the least."""
        pins = {}
        spots = [(0, part, len(part.names), numbers) for part, numbers in parts]
        while spots:
            hour, part, moved, numbers = spots.pop()
            if moved < len(part.names):
                after = self._best(hour, part, moved, numbers)
                pins[(hour, part.names[moved])] = after[moved]
                spots.append((hour, part, moved + 1, after))
            elif hour < self.end:
                _, left, row = self.ways.run(part, numbers)
                parts_left = self.ways.parts_of(left, hour + 1, row)
                spots.extend([(hour + 1, inner, 0, before) for inner, before in parts_left])
        return pins

    def anew(self, hour, part, moved, numbers):
        """The least, reckoned from that at the spots that come next."""
        if moved < len(part.names):
            moves = self.ways.moves(part, moved, numbers)
            return min([self.of(hour, part, moved + 1, after) for after, weight in moves])
        amounts, left, row = self.ways.run(part, numbers)
        least = sum(amounts.values())
        if hour < self.end:
            for inner, before in self.ways.parts_of(left, hour + 1, row):
                least += self.of(hour + 1, inner, 0, before)
        return least

    def _best(self, hour, part, moved, numbers):
        """The numbers behind the first of the next name's steps that lead to the least."""
        least = self.of(hour, part, moved, numbers)
        moves = self.ways.moves(part, moved, numbers)
        return [after for after, weight in moves if self.of(hour, part, moved + 1, after) == least][0]


class Mean(Search):
    """The mean of what a part gives in all futures, from a spot on.

    It is told as a whole number: times the weight of all steps that the names of the part have yet to make to the hour
    of the spot, and all names of the market to the hours behind it.
    """

    def __init__(self, ways):
        Search.__init__(self, ways)
        # The weight of all ways through so many hours.
        self.weights = [1]
        for _ in range(ways.last):
            self.weights.append(self.weights[-1] * ways.weight_beside([]))

    def anew(self, hour, part, moved, numbers):
        """The mean, reckoned from that at the spots that come next."""
        if moved < len(part.names):
            moves = self.ways.moves(part, moved, numbers)
            return sum([self.of(hour, part, moved + 1, after) * weight for after, weight in moves])
        amounts, left, row = self.ways.run(part, numbers)
        mean = sum(amounts.values()) * self.weights[self.ways.last - hour]
        for inner, count, before in self.ways.strands_of(left, hour + 1, row):
            # The names that this strand doesn't read move all the same.
            mean += count * self.ways.weight_beside(inner.names) * self.of(hour + 1, inner, 0, before)
        return mean


class Same(Search):
    """What a part gives in all futures, from a spot on, as a sum of hours and places; None where futures part."""

    def __init__(self, ways):
        Search.__init__(self, ways)
        # Where futures part, once they do: the numbers, by hours and names, that lead there, and the hour and name at
        # which they do, with two of the numbers of that name.
        self.path = {}
        self.fork = None

    def anew(self, hour, part, moved, numbers):
        """What is given, reckoned from that at the spots that come next."""
        if moved < len(part.names):
            return self._of_moves(hour, part, moved, numbers)
        amounts, left, row = self.ways.run(part, numbers)
        total = {(hour, place): amount for place, amount in amounts.items()}
        for inner, before in self.ways.parts_of(left, hour + 1, row):
            found = self.of(hour + 1, inner, 0, before)
            if found is None:
                return None
            total = added(total, found)
        return total

    def _of_moves(self, hour, part, moved, numbers):
        """What is given from a spot on at which a name has yet to move."""
        pin = (hour, part.names[moved])
        moves = [after for after, weight in self.ways.moves(part, moved, numbers)]
        total = None
        for after in moves:
            found = self.of(hour, part, moved + 1, after)
            if found is None:
                self.path[pin] = after[moved]
                return None
            if total is not None and found != total:
                self.fork = (pin, moves[0][moved], after[moved])
                return None
            total = found
        return total
