"""What contracts owe in rows, and what is left of them behind these."""

from contractbook.strands import Strands


def owed(contract, rows):
    """What is owed in these rows: tuples (hour, one, other, good, many)."""
    strands = Strands()
    told, _ = _gone(strands, strands.sum_of(contract), rows)
    return told


def cut(contract, rows):
    """What is owed in these rows, and the contract that is left behind them."""
    strands = Strands()
    told, left = _gone(strands, strands.sum_of(contract), rows)
    return told, strands.contract_of(left)


def _gone(strands, total, rows):
    """What a sum of strands owes in these rows, and the sum that is left behind them."""
    told = []
    for hour, row in enumerate(rows):
        amounts, total = strands.run(total, row)
        told.extend(sorted([_told(hour, place, amount) for place, amount in amounts.items()]))
    return told, total


def _told(hour, place, amount):
    """What is owed at a place, told from the side that gives."""
    one, other, good = place
    if amount < 0:
        return (hour, other, one, good, -amount)
    return (hour, one, other, good, amount)
