"""What holds over the whole program: what is handed in stays, answers share nothing, and any words will do."""

import copy
import unittest

import byhand
from contractbook.bounds import apart, bounds, stock, worth
from contractbook.contracts import need_contract, size_of
from contractbook.going import cut, owed
from contractbook.markets import Market
from contractbook.notes import read, written
from contractbook.parting import goods_of, of_good, of_side, sides_of
from contractbook.seen import holds, number_of
from contractbook.shorter import shorter
from contractbook.spans import spans
from samples import GOODS, PLACES, RAIN, SIDES, WORDS, above, draws, drawn_contract, drawn_market, give, num

SUN = ("read", "sun")
LAST = 3
NAMES = [("rain", 0, [(2, 1), (-1, 3)]), ("sun", 2, [(1, 2), (-3, 1)])]
ROWS = [{"rain": 0, "sun": 2}, {"rain": 2, "sun": 3}, {"rain": 1, "sun": 0}, {"rain": 3, "sun": 1}]
CONTRACTS = [hold(inner) for hold in PLACES.values() for inner in WORDS.values()] + [
    ("often", 4, 1, give(("times", RAIN, SUN))),
    ("until", ("below", SUN, RAIN), ("often", 9, 1, ("when", above(1), give(("plus", RAIN, SUN))))),
]

# Each function of the program, asked of what is handed in: a contract, another one, rows, a market, a side and a good.
QUESTIONS = {
    "need_contract": lambda h: need_contract(h.contract),
    "size_of": lambda h: size_of(h.contract),
    "number_of": lambda h: number_of(("plus", RAIN, SUN), h.rows[1]),
    "holds": lambda h: holds(("below", RAIN, SUN), h.rows[1]),
    "owed": lambda h: owed(h.contract, h.rows),
    "cut": lambda h: cut(h.contract, h.rows[:2]),
    "Market": lambda h: Market(LAST, h.names).futures(),
    "futures": lambda h: h.market.futures(),
    "is_future": lambda h: h.market.is_future(h.rows),
    "bounds": lambda h: bounds(h.contract, h.market, "bob", "gold"),
    "worth": lambda h: worth(h.contract, h.market, "bob", "gold"),
    "stock": lambda h: stock(h.contract, h.market, "ann", "gold"),
    "apart": lambda h: apart(h.contract, h.other, h.market),
    "apart of one": lambda h: apart(h.contract, h.contract, h.market),
    "spans": lambda h: spans(h.contract, h.market, "bob", "gold"),
    "of_good": lambda h: of_good(h.contract, "gold"),
    "of_side": lambda h: of_side(h.contract, "carl"),
    "goods_of": lambda h: goods_of(h.contract),
    "sides_of": lambda h: sides_of(h.contract),
    "shorter": lambda h: shorter(h.contract),
    "written": lambda h: written(h.contract),
    "read": lambda h: read(written(h.contract)),
}


class Handed:
    """What is handed in, made anew."""

    def __init__(self, contract, other=WORDS["often"]):
        self.contract = copy.deepcopy(contract)
        self.other = copy.deepcopy(other)
        self.rows = copy.deepcopy(ROWS)
        self.names = copy.deepcopy(NAMES)
        self.market = Market(LAST, self.names)

    def told(self):
        return copy.deepcopy((self.contract, self.other, self.rows, self.names))

    def spoil(self):
        """Change all that may be changed."""
        for row in self.rows:
            row["rain"] += 100
            row["fog"] = 7
        self.rows.append({})
        for _, _, steps in self.names:
            steps[0] = (77, 7)
            steps.append((99, 9))
        self.names.append(("fog", 5, [(1, 1)]))
        self.names[0] = ("wind", 0, [(1, 1)])


def kept_in(told):
    """All lists and dicts in an answer."""
    if isinstance(told, dict):
        return [told] + [found for part in told.values() for found in kept_in(part)]
    if isinstance(told, (list, tuple)):
        return ([told] if isinstance(told, list) else []) + [found for part in told for found in kept_in(part)]
    return []


class TestWhatIsHandedIn(unittest.TestCase):
    def test_it_stays(self):
        for contract in CONTRACTS:
            handed = Handed(contract)
            told = handed.told()
            for name, ask in QUESTIONS.items():
                ask(handed)
                self.assertEqual(handed.told(), told, name)

    def test_it_may_be_changed_behind_without_a_change_of_any_answer(self):
        for contract in CONTRACTS[::4] + CONTRACTS[-2:]:
            handed = Handed(contract)
            answers = {name: ask(handed) for name, ask in QUESTIONS.items()}
            told = copy.deepcopy(answers)
            handed.spoil()
            self.assertEqual(answers, told)
            # The market, which was made of what is changed now, answers as it did.
            for name in ("futures", "bounds", "worth", "stock", "apart", "apart of one", "spans"):
                with self.subTest(contract=contract, name=name):
                    self.assertEqual(QUESTIONS[name](handed), told[name])
            self.assertIs(handed.market.is_future(byhand.futures(LAST, NAMES)[3][0]), True)

    def test_a_rest_is_not_changed_either(self):
        for contract in CONTRACTS[::4] + CONTRACTS[-2:]:
            handed = Handed(contract)
            _, rest = cut(handed.contract, handed.rows)
            told = copy.deepcopy(rest)
            handed.spoil()
            self.assertEqual(rest, told)
            handed = Handed(rest)
            for name, ask in QUESTIONS.items():
                if name not in ("need_contract", "written", "read"):
                    ask(handed)
                    self.assertEqual(handed.contract, told, name)


class TestAnswers(unittest.TestCase):
    def test_no_two_lists_or_dicts_are_one(self):
        for contract in CONTRACTS[::3] + CONTRACTS[-2:]:
            handed = Handed(contract)
            answers = [(name, ask(handed)) for _ in range(2) for name, ask in QUESTIONS.items()]
            found = [(name, part) for name, answer in answers for part in kept_in(answer)]
            found += [("handed in", part) for part in kept_in((handed.rows, handed.names))]
            owners = {}
            for name, part in found:
                self.assertNotIn(id(part), owners, f"{name} and {owners.get(id(part))}")
                owners[id(part)] = name

    def test_none_has_the_mark_of_another_one(self):
        for contract in CONTRACTS[::3] + CONTRACTS[-2:]:
            handed = Handed(contract)
            answers = [ask(handed) for _ in range(2) for ask in QUESTIONS.values()]
            for mark, part in enumerate(kept_in(answers)[1:]):
                if isinstance(part, dict):
                    self.assertNotIn("mark", part)
                    part["mark"] = mark
                else:
                    self.assertFalse(any(isinstance(item, str) and item.startswith("mark ") for item in part))
                    part.append(f"mark {mark}")
            for mark, part in enumerate(kept_in(answers)[1:]):
                self.assertEqual(part["mark"] if isinstance(part, dict) else part[-1],
                                 mark if isinstance(part, dict) else f"mark {mark}")

    def test_the_same_whatever_was_asked_between(self):
        handed = [Handed(contract) for contract in CONTRACTS[::5] + CONTRACTS[-2:]]
        told = {}
        for at, one in enumerate(handed):
            for name, ask in QUESTIONS.items():
                told[at, name] = copy.deepcopy(ask(one))
        for at, one in reversed(list(enumerate(handed))):
            for name, ask in reversed(QUESTIONS.items()):
                answer = ask(one)
                self.assertEqual(answer, told[at, name], name)
                for part in kept_in(answer):
                    part.clear()
        for at, one in enumerate(handed):
            for name, ask in QUESTIONS.items():
                self.assertEqual(ask(one), told[at, name], name)
                # And of what is like it, but made anew.
                self.assertEqual(ask(Handed(one.contract)), told[at, name], name)


class Exchange:
    """Sides, goods and names exchanged one for one for other words."""

    def __init__(self, sides, goods, names):
        self.sides = dict(zip(("ann", "bob", "carl"), sides.split()))
        self.goods = dict(zip(("gold", "silver"), goods.split()))
        self.names = dict(zip(("rain", "sun", "fog"), names.split()))

    def told(self, told):
        """A contract, a condition or a number."""
        word = told[0]
        if word == "read":
            return (word, self.names[told[1]])
        if word == "give":
            return (word, self.sides[told[1]], self.sides[told[2]], self.goods[told[3]], self.told(told[4]))
        if word == "turned":
            return (word, self.sides[told[1]], self.sides[told[2]], self.told(told[3]))
        return (word,) + tuple(self.told(part) if isinstance(part, tuple) else part for part in told[1:])

    def rows(self, rows):
        return None if rows is None else [{self.names[name]: n for name, n in row.items()} for row in rows]

    def owed(self, told):
        return sorted((hour, self.sides[one], self.sides[other], self.goods[good], many)
                      for hour, one, other, good, many in told)

    def market(self, last, names):
        return Market(last, [(self.names[name], number, steps) for name, number, steps in names])


EXCHANGES = {
    "the other way round": Exchange("zoe yan xu", "tin iron", "wind snow heat"),
    "one another": Exchange("carl ann bob", "silver gold", "sun fog rain"),
    "words of the language": Exchange("none give both", "read num", "until plus below"),
    "words for numbers": Exchange("num read not", "num read", "num read not"),
    "the same for each kind": Exchange("c b a", "b c", "b a c"),
    "sides called like names": Exchange("rain sun fog", "ann bob", "gold rain ann"),
    "letters": Exchange("a aa aaaaaaaa", "zzzzzzzz z", "z zz zzzzzzzz"),
}


class TestOtherWords(unittest.TestCase):
    def alike(self, contract, other, told, exchange):
        """That all answers are those by the other words."""
        last, names = told
        market, turned = Market(last, names), exchange.market(last, names)
        rows, _ = byhand.futures(last, names)[-1]
        new, new_other, new_rows = exchange.told(contract), exchange.told(other), exchange.rows(rows)
        need_contract(new)
        self.assertEqual(size_of(new), size_of(contract))
        self.assertEqual(owed(new, new_rows), exchange.owed(owed(contract, rows)))
        self.cut_alike(contract, new, rows, exchange)
        self.assertEqual(turned.futures(), [(exchange.rows(way), weight) for way, weight in market.futures()])
        self.assertIs(turned.is_future(new_rows), True)
        for side in SIDES:
            for good in GOODS:
                asked = (new, turned, exchange.sides[side], exchange.goods[good])
                least, low, most, high = bounds(contract, market, side, good)
                self.assertEqual(bounds(*asked), (least, exchange.rows(low), most, exchange.rows(high)))
                self.assertEqual(worth(*asked), worth(contract, market, side, good))
                many, future = stock(contract, market, side, good)
                self.assertEqual(stock(*asked), (many, exchange.rows(future)))
                self.assertEqual(spans(*asked), spans(contract, market, side, good))
        self.assertEqual(apart(new, new_other, turned), exchange.rows(apart(contract, other, market)))
        self.made_alike(contract, new, exchange)

    def cut_alike(self, contract, new, rows, exchange):
        for hours in range(len(rows) + 1):
            told, rest = cut(contract, rows[:hours])
            new_told, new_rest = cut(new, exchange.rows(rows[:hours]))
            self.assertEqual(new_told, exchange.owed(told))
            self.assertEqual(owed(new_rest, exchange.rows(rows)), exchange.owed(owed(rest, rows)))

    def made_alike(self, contract, new, exchange):
        for side in SIDES:
            self.assertEqual(of_side(new, exchange.sides[side]), exchange.told(of_side(contract, side)))
        for good in GOODS:
            self.assertEqual(of_good(new, exchange.goods[good]), exchange.told(of_good(contract, good)))
        self.assertEqual(goods_of(new), sorted(exchange.goods[good] for good in goods_of(contract)))
        self.assertEqual(sides_of(new), sorted(exchange.sides[side] for side in sides_of(contract)))
        self.assertEqual(shorter(new), exchange.told(shorter(contract)))
        if len(written(new)) <= 4000:
            self.assertEqual(read(written(new)), new)

    def test_each_word_within_each_word(self):
        for name, exchange in EXCHANGES.items():
            for contract in CONTRACTS[::3] + CONTRACTS[-2:]:
                with self.subTest(name=name, contract=contract):
                    self.alike(contract, WORDS["often"], (LAST, NAMES), exchange)

    def test_drawn_contracts(self):
        for seed, draw in draws(51000, 150):
            last, names = drawn_market(draw, 40)
            read_names = [name for name, _, _ in names]
            contract = drawn_contract(draw, read_names, draw.randint(1, 4))
            other = drawn_contract(draw, read_names, draw.randint(1, 3))
            name = draw.choice(list(EXCHANGES))
            with self.subTest(seed=seed, name=name):
                self.alike(contract, other, (last, names), EXCHANGES[name])

    def test_futures_that_do_as_well_as_others(self):
        # Many futures come to the least and the most, whichever name is looked at first.
        told = (3, [("sun", 0, [(1, 1), (-1, 1)]), ("rain", 0, [(1, 1), (-1, 1)]), ("fog", 0, [(-1, 1), (1, 1)])])
        number = ("plus", ("times", RAIN, SUN), ("times", SUN, ("read", "fog")))
        for contract in (("often", 4, 1, give(number)), ("later", 3, give(("times", RAIN, SUN))),
                         ("often", 4, 1, ("if", ("below", RAIN, SUN), give(3), give(number, "bob", "carl")))):
            for name, exchange in EXCHANGES.items():
                with self.subTest(name=name, contract=contract):
                    self.alike(contract, ("both", contract, ("later", 3, give(num(1)))), told, exchange)
                    self.alike(contract, contract[:-1] + (give(3),), told, exchange)


if __name__ == "__main__":
    unittest.main()
