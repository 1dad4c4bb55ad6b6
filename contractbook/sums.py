"""Sums: dicts that tell how many times each thing is there, below nought too, and nothing that is there no times."""


def add(total, thing, count):
    """Put so many more of a thing to a sum."""
    many = total.get(thing, 0) + count
    if many == 0:
        total.pop(thing, None)
    else:
        total[thing] = many


def added(first, second, times=1):
    """The first sum and so many times the second one, as a sum of its own."""
    total = {thing: count for thing, count in first.items()}
    for thing, count in second.items():
        add(total, thing, count * times)
    return total


def scaled(total, times):
    """So many times a sum."""
    return added({}, total, times)
