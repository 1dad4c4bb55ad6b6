"""Contracts and markets for the tests: some written out, and some drawn, the same ones each time."""

import math
import random

SIDES = ("ann", "bob", "carl")
GOODS = ("gold", "silver")
STEPS = (-2, -1, 0, 1, 2, 3)

RAIN = ("read", "rain")
NONE = ("none",)


def num(number):
    return ("num", number)


def give(number, one="ann", other="bob", good="gold"):
    """A give of a written number, or of another one."""
    return ("give", one, other, good, num(number) if isinstance(number, int) else number)


def rain(*numbers):
    """Rows in which rain alone is read."""
    return [{"rain": number} for number in numbers]


def above(number):
    """Whether more rain is read."""
    return ("below", num(number), RAIN)


# Each place at which a contract may stand within another one, with a contract that holds it there.
PLACES = {
    "both, ahead": lambda c: ("both", c, give(50, "bob", "carl")),
    "both, behind": lambda c: ("both", give(50, "bob", "carl"), c),
    "turned": lambda c: ("turned", "bob", "carl", c),
    "later": lambda c: ("later", 1, c),
    "often": lambda c: ("often", 2, 1, c),
    "if, where it holds": lambda c: ("if", above(0), c, give(7)),
    "if, else": lambda c: ("if", above(0), give(7), c),
    "when": lambda c: ("when", above(1), c),
    "until": lambda c: ("until", above(2), c),
}
# Each word of a contract.
WORDS = {
    "none": NONE,
    "give": give(("plus", RAIN, num(10))),
    "both": ("both", give(RAIN), give(3, "carl", "ann", "silver")),
    "turned": ("turned", "ann", "bob", give(RAIN)),
    "later": ("later", 1, give(RAIN)),
    "often": ("often", 3, 2, give(RAIN)),
    "if": ("if", above(1), give(RAIN), give(9)),
    "when": ("when", above(2), give(RAIN)),
    "until": ("until", above(1), ("often", 9, 1, give(("minus", RAIN, num(20))))),
}


def together(contracts):
    """All of these contracts, none of them deep within the others."""
    if len(contracts) == 1:
        return contracts[0]
    half = len(contracts) // 2
    return ("both", together(contracts[:half]), together(contracts[half:]))


def drawn_number(draw, names, depth):
    if depth == 0 or draw.random() < 0.45:
        if names and draw.random() < 0.6:
            return ("read", draw.choice(names))
        return num(draw.choice((0, 1, -1, 2, 3, -2, 5)))
    word = draw.choice(("plus", "minus", "times", "most", "least"))
    return (word, drawn_number(draw, names, depth - 1), drawn_number(draw, names, depth - 1))


def drawn_condition(draw, names, depth):
    if depth == 0 or draw.random() < 0.6:
        return ("below", drawn_number(draw, names, 1), drawn_number(draw, names, 1))
    word = draw.choice(("not", "all", "any"))
    if word == "not":
        return (word, drawn_condition(draw, names, depth - 1))
    return (word, drawn_condition(draw, names, depth - 1), drawn_condition(draw, names, depth - 1))


def drawn_contract(draw, names, depth):
    if depth == 0 or draw.random() < 0.12:
        one, other = draw.sample(SIDES, 2)
        told = ("give", one, other, draw.choice(GOODS), drawn_number(draw, names, 2))
        return draw.choice((told,) * 8 + (NONE,))
    word = draw.choice(("both", "both", "turned", "later", "often", "if", "when", "until"))
    inner = drawn_contract(draw, names, depth - 1)
    if word == "both":
        return (word, inner, drawn_contract(draw, names, depth - 1))
    if word == "turned":
        return (word, *draw.sample(SIDES, 2), inner)
    if word == "later":
        return (word, draw.choice((0, 0, 1, 1, 2, 3)), inner)
    if word == "often":
        return (word, draw.randint(1, 3), draw.randint(1, 2), inner)
    if word == "if":
        return (word, drawn_condition(draw, names, 2), inner, drawn_contract(draw, names, depth - 1))
    return (word, drawn_condition(draw, names, 2), inner)


def drawn_market(draw, most=200):
    """What a market of no more futures than these is made of: its last hour and its names."""
    names = []
    for name in draw.sample(("rain", "sun", "fog"), draw.choice((0, 1, 1, 2, 2, 3))):
        steps = [(step, draw.randint(1, 5)) for step in draw.sample(STEPS, draw.choice((1, 2, 2, 3)))]
        names.append((name, draw.randint(-2, 2), steps))
    last = draw.randint(0, 4)
    while math.prod(len(steps) for _, _, steps in names) ** last > most:
        last -= 1
    return last, names


def told_otherwise(draw, contract):
    """A contract that owes the same, told in other words."""
    word = contract[0]
    chance = draw.random()
    if word == "none":
        return ("both", contract, contract)
    if word == "give":
        return give_told_otherwise(contract, chance)
    last = told_otherwise(draw, contract[-1])
    if word == "both":
        return (word, last, told_otherwise(draw, contract[1]))
    if word == "turned":
        return (word, contract[2], contract[1], last)
    if word == "later" and contract[1] > 0:
        return ("later", 1, ("later", contract[1] - 1, last))
    if word == "often" and contract[1] > 1:
        again = ("often", contract[1] - 1, contract[2], contract[-1])
        return ("both", ("later", contract[2], again), last)
    if word == "if":
        return (word, ("not", contract[1]), last, told_otherwise(draw, contract[2]))
    if word == "when" and chance < 0.5:
        return (word, contract[1], ("if", contract[1], last, give(7)))
    if word == "until" and last[0] == "both":
        return ("both", (word, contract[1], last[1]), (word, contract[1], last[2]))
    if word == "until" and last[0] == "until":
        return (word, last[1], (word, contract[1], last[2]))
    return contract[:-1] + (last,)


def give_told_otherwise(told, chance):
    _, one, other, good, number = told
    if chance < 0.3:
        return ("give", other, one, good, ("minus", num(0), number))
    if chance < 0.6:
        return ("both", ("give", one, other, good, ("plus", number, num(2))), ("give", other, one, good, num(2)))
    if chance < 0.8:
        return ("give", one, other, good, ("most", number, number))
    return told


def draws(first, many):
    """So many sources of the same chances each time, with their numbers."""
    return [(seed, random.Random(seed)) for seed in range(first, first + many)]
