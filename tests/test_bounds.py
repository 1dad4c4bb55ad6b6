"""What holds in all futures of a market: held against all of them, one by one, where they are few."""

import copy
import math
import unittest

import byhand
from contractbook import bounds as file
from contractbook.bounds import apart, bounds, stock, worth
from contractbook.errors import TooMany
from contractbook.going import cut, owed
from contractbook.markets import Market
from samples import (GOODS, NONE, RAIN, SIDES, above, draws, drawn_condition, drawn_contract, drawn_market, give, num,
                     rain, together, told_otherwise)

SUN = ("read", "sun")
FOG = ("read", "fog")
FEW = (3, [("rain", 0, [(1, 1), (-1, 3), (2, 2)]), ("sun", 2, [(3, 4), (-2, 1)])])
# Twelve steps of three names: far too many futures to be looked at one by one.
MANY = (12, [
    ("rain", 0, [(1, 1), (0, 2), (-1, 3)]),
    ("sun", 2, [(3, 4), (-2, 1)]),
    ("fog", -1, [(1, 1), (-4, 6), (2, 3)]),
])
# Each word of a contract at least once.
WORDS = {
    "none": NONE,
    "give": give(("plus", RAIN, num(10))),
    "give, below nought": give(("minus", RAIN, num(10))),
    "both": ("both", give(4), ("later", 1, give(("times", RAIN, SUN), "carl", "ann", "silver"))),
    "turned": ("turned", "ann", "bob", ("later", 2, give(RAIN))),
    "later": ("later", 3, give(RAIN)),
    "later than the last hour": ("later", 4, give(RAIN)),
    "often": ("often", 3, 1, give(RAIN)),
    "if": ("later", 1, ("if", above(0), give(RAIN), ("later", 1, give(SUN)))),
    "when": ("when", above(0), give(SUN)),
    "when and often": ("often", 3, 1, ("when", above(1), ("often", 2, 1, give(("plus", RAIN, SUN))))),
    "until": ("until", above(1), ("often", 9, 1, give(SUN))),
    "until and when": ("until", ("below", SUN, num(1)), ("often", 2, 1, ("when", above(0), give(("most", RAIN, SUN))))),
}


class InAllFutures(unittest.TestCase):
    def bounded(self, contract, told, side, good):
        market, ways = Market(*told), byhand.futures(*told)
        found = bounds(contract, market, side, good)
        self.assertIs(type(found), tuple)
        least, low, most, high = found
        numbers = [byhand.comes_to(contract, rows, side, good) for rows, _ in ways]
        self.assertEqual((least, most), (min(numbers), max(numbers)))
        for number, rows in ((least, low), (most, high)):
            self.assertIn(rows, [future for future, _ in ways])
            self.assertIs(market.is_future(rows), True)
            self.assertEqual(byhand.comes_to(contract, rows, side, good), number)

    def worthy(self, contract, told, side, good):
        found = worth(contract, Market(*told), side, good)
        self.assertIs(type(found), tuple)
        self.assertEqual(found, byhand.mean(contract, byhand.futures(*told), side, good))
        self.assertGreaterEqual(found[1], 1)
        self.assertEqual(math.gcd(*found), 1)

    def stocked(self, contract, told, side, good):
        market, ways = Market(*told), byhand.futures(*told)
        found = stock(contract, market, side, good)
        self.assertIs(type(found), tuple)
        many, future = found
        lowest = min(byhand.lowest(contract, rows, side, good) for rows, _ in ways)
        self.assertEqual(many, max(0, -lowest))
        self.assertIn(future, [rows for rows, _ in ways])
        if many > 0:
            self.assertEqual(byhand.lowest(contract, future, side, good), -many)

    def parted(self, one, other, told):
        market, ways = Market(*told), byhand.futures(*told)
        unlike = [rows for rows, _ in ways if byhand.owed(one, rows) != byhand.owed(other, rows)]
        for first, second in ((one, other), (other, one)):
            future = apart(first, second, market)
            if unlike:
                self.assertIn(future, unlike)
            else:
                self.assertIsNone(future)
        return bool(unlike)

    def all_hold(self, contract, told):
        for side in ("ann", "bob", "carl", "dora"):
            for good in ("gold", "silver", "tin"):
                self.bounded(contract, told, side, good)
                self.worthy(contract, told, side, good)
                self.stocked(contract, told, side, good)


class TestAgainstAllFutures(InAllFutures):
    def test_each_word(self):
        for word, contract in WORDS.items():
            for told in (FEW, (0, FEW[1]), (1, FEW[1]), (2, [FEW[1][1], FEW[1][0], ("fog", 0, [(0, 5)])])):
                with self.subTest(word=word, told=told):
                    self.all_hold(contract, told)

    def test_drawn_contracts(self):
        for seed, draw in draws(0, 250):
            told = drawn_market(draw)
            contract = drawn_contract(draw, [name for name, _, _ in told[1]], draw.randint(0, 5))
            side, good = draw.choice(SIDES), draw.choice(GOODS)
            with self.subTest(seed=seed):
                self.bounded(contract, told, side, good)
                self.worthy(contract, told, side, good)
                self.stocked(contract, told, side, good)

    def test_drawn_rests(self):
        for seed, draw in draws(3000, 80):
            told = drawn_market(draw)
            contract = drawn_contract(draw, [name for name, _, _ in told[1]], draw.randint(2, 5))
            rows, _ = draw.choice(byhand.futures(*told))
            _, rest = cut(contract, rows[:draw.randint(0, len(rows))])
            side, good = draw.choice(SIDES), draw.choice(GOODS)
            with self.subTest(seed=seed):
                self.bounded(rest, told, side, good)
                self.worthy(rest, told, side, good)
                self.stocked(rest, told, side, good)

    def test_drawn_pairs_told_otherwise(self):
        for seed, draw in draws(5000, 250):
            told = drawn_market(draw, 100)
            contract = drawn_contract(draw, [name for name, _, _ in told[1]], draw.randint(1, 5))
            with self.subTest(seed=seed):
                other = told_otherwise(draw, contract)
                self.assertFalse(self.parted(contract, other, told))
                self.assertFalse(self.parted(contract, told_otherwise(draw, other), told))

    def test_drawn_pairs(self):
        both = {True: 0, False: 0}
        for seed, draw in draws(7000, 250):
            told = drawn_market(draw, 100)
            names = [name for name, _, _ in told[1]]
            contract = drawn_contract(draw, names, draw.randint(1, 4))
            more = ("later", draw.randint(0, 2), ("if", drawn_condition(draw, names, 1), give(1), NONE))
            with self.subTest(seed=seed):
                both[self.parted(contract, ("both", told_otherwise(draw, contract), more), told)] += 1
                both[self.parted(contract, drawn_contract(draw, names, draw.randint(0, 2)), told)] += 1
        self.assertGreater(min(both.values()), 30)


class TestBounds(InAllFutures):
    def test_written_out(self):
        market = Market(2, [("rain", 5, [(1, 1), (-3, 1)])])
        contract = ("often", 3, 1, give(RAIN))
        self.assertEqual(bounds(contract, market, "bob", "gold"), (6, rain(5, 2, -1), 18, rain(5, 6, 7)))
        self.assertEqual(bounds(contract, market, "ann", "gold"), (-18, rain(5, 6, 7), -6, rain(5, 2, -1)))

    def test_what_is_got_less_what_is_given(self):
        market = Market(1, [])
        contract = ("both", give(5), ("later", 1, give(2, "bob", "carl")))
        rows = [{}, {}]
        self.assertEqual(bounds(contract, market, "bob", "gold"), (3, rows, 3, rows))
        self.assertEqual(bounds(contract, market, "ann", "gold"), (-5, rows, -5, rows))
        self.assertEqual(bounds(contract, market, "carl", "gold"), (2, rows, 2, rows))

    def test_a_side_or_a_good_that_stands_nowhere(self):
        for side, good in (("dora", "gold"), ("ann", "tin"), ("gold", "ann"), ("dora", "tin"), ("rain", "gold")):
            with self.subTest(side=side, good=good):
                market = Market(*FEW)
                least, low, most, high = bounds(WORDS["often"], market, side, good)
                self.assertEqual((least, most), (0, 0))
                self.assertIs(market.is_future(low), True)
                self.assertIs(market.is_future(high), True)

    def test_a_side_that_turned_takes_away_or_brings(self):
        market = Market(0, [])
        contract = ("turned", "bob", "dora", give(3))
        self.assertEqual(bounds(contract, market, "bob", "gold"), (0, [{}], 0, [{}]))
        self.assertEqual(bounds(contract, market, "dora", "gold"), (3, [{}], 3, [{}]))

    def test_the_least_of_the_whole_is_not_the_least_of_the_parts(self):
        told = (2, [("rain", 0, [(1, 1), (-1, 1)])])
        contract = ("both", ("later", 1, give(RAIN)), ("later", 2, give(("times", num(3), RAIN), "bob", "ann")))
        self.bounded(contract, told, "bob", "gold")
        self.assertEqual(bounds(contract, Market(*told), "bob", "gold")[::2], (-5, 5))

    def test_names_that_do_not_hang_together(self):
        contract = together([("often", 3, 1, give(RAIN)), ("when", ("below", SUN, num(1)), give(7)),
                             ("later", 2, give(("times", FOG, FOG), "bob", "ann"))])
        told = (3, [("rain", 1, [(1, 1), (-2, 1)]), ("sun", 2, [(-1, 1), (1, 1)]), ("fog", 0, [(1, 1), (2, 1)])])
        for side in ("ann", "bob"):
            self.bounded(contract, told, side, "gold")

    def test_names_that_hang_together_by_a_third(self):
        parts = [give(("times", RAIN, SUN)), give(("times", SUN, FOG), "bob", "ann"), give(("times", FOG, num(2)))]
        told = (2, [("rain", 1, [(1, 1), (-2, 1)]), ("sun", 2, [(-1, 1), (-3, 1)]), ("fog", 0, [(1, 1), (-2, 1)])])
        for order in (parts, parts[::-1], parts[1:] + parts[:1], [parts[0], parts[2], parts[1]]):
            self.bounded(("often", 3, 1, together(order)), told, "bob", "gold")

    def test_no_two_lists_or_dicts_of_an_answer_are_one(self):
        for contract in (NONE, give(3), ("often", 3, 1, give(3))):
            for told in (FEW, MANY, (0, []), (3, [])):
                _, low, _, high = bounds(contract, Market(*told), "ann", "gold")
                parts = [low, high] + low + high
                self.assertEqual(len({id(part) for part in parts}), len(parts))
        _, low, _, high = bounds(WORDS["often"], Market(*FEW), "ann", "gold")
        self.assertEqual(len({id(part) for part in low + high}), 8)

    def test_of_many_futures(self):
        market = Market(*MANY)
        contract = ("often", 9, 1, ("both", give(RAIN), give(("times", num(2), SUN), "bob", "ann")))
        least, low, most, high = bounds(contract, market, "bob", "gold")
        self.assertEqual(least, -36 - 2 * (18 + 3 * 36))
        self.assertEqual(most, 36 - 2 * (18 - 2 * 36))
        for number, rows in ((least, low), (most, high)):
            self.assertIs(market.is_future(rows), True)
            self.assertEqual(byhand.comes_to(contract, rows, "bob", "gold"), number)


    def test_of_three_names_in_very_many_futures(self):
        # So many numbers of each name that they could not be looked at together, which a sum does not ask for.
        steps = [(1, 1), (100, 2), (-10000, 3), (1000000, 4)]
        market = Market(12, [("rain", 0, steps), ("sun", 0, steps), ("fog", 0, steps)])
        number = ("minus", ("plus", RAIN, ("times", num(2), SUN)), ("times", FOG, num(3)))
        contract = ("often", 2, 6, ("both", give(number), give(("plus", num(5), SUN), "bob", "ann")))
        least, low, most, high = bounds(("later", 6, contract), market, "bob", "gold")
        self.assertEqual(least, 18 * (-10000 - 10000 - 3 * 1000000) - 10)
        self.assertEqual(most, 18 * (1000000 + 1000000 + 3 * 10000) - 10)
        for number, rows in ((least, low), (most, high)):
            self.assertIs(market.is_future(rows), True)
            self.assertEqual(byhand.comes_to(("later", 6, contract), rows, "bob", "gold"), number)
        self.assertIsNone(apart(contract, ("both", contract, give(0)), market))


class TestWorth(InAllFutures):
    def test_written_out(self):
        market = Market(1, [("rain", 5, [(1, 1), (-3, 2)])])
        self.assertEqual(worth(("later", 1, give(RAIN)), market, "bob", "gold"), (10, 3))
        self.assertEqual(worth(("later", 1, give(RAIN)), market, "ann", "gold"), (-10, 3))
        self.assertEqual(worth(give(RAIN), market, "bob", "gold"), (5, 1))

    def test_in_lowest_terms(self):
        market = Market(1, [("rain", 0, [(6, 2), (2, 4)])])
        self.assertEqual(worth(("later", 1, give(RAIN)), market, "bob", "gold"), (10, 3))
        market = Market(2, [("rain", 0, [(6, 2), (2, 2)])])
        self.assertEqual(worth(("later", 2, give(RAIN)), market, "bob", "gold"), (8, 1))
        self.assertEqual(worth(("later", 2, give(RAIN)), market, "ann", "gold"), (-8, 1))
        market = Market(1, [("rain", 0, [(1, 1), (0, 1)])])
        self.assertEqual(worth(("later", 1, give(RAIN)), market, "ann", "gold"), (-1, 2))

    def test_nought(self):
        for contract, side, good in ((NONE, "ann", "gold"), (WORDS["often"], "dora", "gold"), (give(5), "ann", "tin"),
                                     (("later", 1, give(RAIN)), "ann", "gold")):
            with self.subTest(contract=contract):
                market = Market(1, [("rain", 0, [(1, 3), (-1, 3)])])
                self.assertEqual(worth(contract, market, side, good), (0, 1))

    def test_names_that_are_not_read_do_not_matter(self):
        contract = ("often", 3, 1, give(("times", RAIN, RAIN)))
        alone = worth(contract, Market(3, FEW[1][:1]), "bob", "gold")
        self.assertEqual(worth(contract, Market(*FEW), "bob", "gold"), alone)
        self.worthy(contract, FEW, "bob", "gold")

    def test_of_many_futures(self):
        market = Market(*MANY)
        # By the mean step of each name: rain goes down by a third, sun up by two, each hour.
        contract = ("often", 9, 1, ("both", give(RAIN), give(SUN, "bob", "carl")))
        self.assertEqual(worth(contract, market, "bob", "gold"), (-12 - 18 - 2 * 36, 1))
        # Rain is above eleven in just one way, of a weight of 1 in 6 ** 12.
        contract = ("later", 12, ("if", above(11), give(1), NONE))
        self.assertEqual(worth(contract, market, "bob", "gold"), (1, 6 ** 12))

    def test_of_two_names_at_once_in_many_futures(self):
        told = (12, [("rain", 0, [(1, 1), (0, 1)]), ("sun", 0, [(1, 1), (0, 1)])])
        contract = ("later", 12, give(("times", RAIN, SUN)))
        self.assertEqual(worth(contract, Market(*told), "bob", "gold"), (36, 1))
        contract = ("later", 12, give(("times", RAIN, RAIN)))
        self.assertEqual(worth(contract, Market(*told), "bob", "gold"), (39, 1))


class TestStock(InAllFutures):
    def test_written_out(self):
        market = Market(2, [("rain", 1, [(2, 1), (-3, 1)])])
        contract = ("often", 3, 1, give(RAIN))
        self.assertEqual(stock(contract, market, "ann", "gold"), (9, rain(1, 3, 5)))
        self.assertEqual(stock(contract, market, "bob", "gold"), (6, rain(1, -2, -5)))

    def test_what_comes_later_does_not_help(self):
        market = Market(3, [])
        contract = ("both", ("later", 1, give(5)), ("later", 2, give(9, "bob", "ann")))
        self.assertEqual(stock(contract, market, "ann", "gold"), (5, [{}] * 4))
        self.assertEqual(stock(contract, market, "bob", "gold"), (4, [{}] * 4))

    def test_what_came_earlier_helps(self):
        market = Market(3, [])
        contract = ("both", give(4, "carl", "ann"), ("later", 2, give(9)))
        self.assertEqual(stock(contract, market, "ann", "gold")[0], 5)
        contract = ("both", give(9, "carl", "ann"), ("later", 2, give(9)))
        self.assertEqual(stock(contract, market, "ann", "gold")[0], 0)

    def test_what_comes_in_the_same_hour_helps(self):
        contract = ("both", give(4, "carl", "ann"), give(9))
        self.assertEqual(stock(contract, Market(0, []), "ann", "gold"), (5, [{}]))

    def test_nought(self):
        for contract, side, good in ((NONE, "ann", "gold"), (give(5), "bob", "gold"), (give(5), "ann", "tin"),
                                     (give(5), "dora", "gold"), (("later", 4, give(5)), "ann", "gold"),
                                     (give(0), "ann", "gold")):
            with self.subTest(contract=contract, side=side, good=good):
                market = Market(*FEW)
                many, future = stock(contract, market, side, good)
                self.assertEqual(many, 0)
                self.assertIs(type(many), int)
                self.assertIs(market.is_future(future), True)

    def test_the_hour_that_falls_shortest_is_not_the_last(self):
        told = (3, [("rain", 0, [(1, 1), (-1, 1)]), ("sun", 0, [(2, 1), (-1, 1)])])
        contract = together([("often", 2, 1, give(RAIN)), ("later", 1, give(SUN)), ("later", 3, give(9, "bob", "ann"))])
        self.stocked(contract, told, "ann", "gold")
        self.stocked(contract, told, "bob", "gold")

    def test_of_many_futures(self):
        market = Market(*MANY)
        contract = ("both", ("often", 9, 1, give(RAIN)), ("later", 9, give(100, "bob", "ann")))
        many, future = stock(contract, market, "ann", "gold")
        self.assertEqual(many, 36)
        self.assertIs(market.is_future(future), True)
        self.assertEqual(byhand.lowest(contract, future, "ann", "gold"), -36)


class TestApart(InAllFutures):
    def test_a_contract_and_itself(self):
        for word, contract in WORDS.items():
            with self.subTest(word=word):
                self.assertIsNone(apart(contract, contract, Market(*FEW)))
                self.assertIsNone(apart(contract, copy.deepcopy(contract), Market(*MANY)))

    def test_told_otherwise(self):
        pairs = [
            (give(3), give(-3, "bob", "ann")),
            (give(0), NONE),
            (give(("minus", RAIN, RAIN)), NONE),
            (give(("times", num(2), RAIN)), ("both", give(RAIN), give(RAIN))),
            (give(("times", RAIN, SUN)), give(("times", SUN, RAIN))),
            (("both", give(3), give(5, "bob", "ann")), give(2, "bob", "ann")),
            (("turned", "ann", "bob", give(RAIN)), give(RAIN, "bob", "ann")),
            (("later", 2, give(RAIN)), ("later", 1, ("later", 1, give(RAIN)))),
            (("later", 1, ("both", give(3), give(RAIN))), ("both", ("later", 1, give(RAIN)), ("later", 1, give(3)))),
            (("often", 2, 1, give(RAIN)), ("both", give(RAIN), ("later", 1, give(RAIN)))),
            (("later", 9, give(RAIN)), NONE),
            (("if", above(1), give(3), give(RAIN)), ("if", ("not", above(1)), give(RAIN), give(3))),
            (("later", 1, ("if", above(0), give(3), give(3))), ("later", 1, give(3))),
            (("when", above(1), give(3)), ("when", above(1), ("if", above(0), give(3), give(9)))),
            (("until", above(1), give(RAIN)), ("if", above(1), NONE, give(RAIN))),
            (("until", above(1), ("until", above(0), ("often", 4, 1, give(SUN)))),
             ("until", above(0), ("often", 4, 1, give(SUN)))),
            (("often", 4, 1, give(("most", RAIN, num(0)))),
             ("often", 4, 1, ("if", above(0), give(RAIN), NONE))),
        ]
        for one, other in pairs:
            with self.subTest(one=one, other=other):
                self.assertFalse(self.parted(one, other, FEW))

    def test_alike_in_this_market_alone(self):
        # Rain goes up by two at most in each of the three hours.
        self.assertFalse(self.parted(("when", above(6), give(3)), NONE, FEW))
        self.assertTrue(self.parted(("when", above(5), give(3)), NONE, FEW))
        self.assertFalse(self.parted(give(SUN), give(2), FEW))
        self.assertFalse(self.parted(give(RAIN), NONE, FEW))
        self.assertFalse(self.parted(("often", 9, 1, give(1)), ("often", 4, 1, give(1)), FEW))
        self.assertTrue(self.parted(("often", 9, 1, give(1)), ("often", 3, 1, give(1)), FEW))

    def test_apart_in_every_future(self):
        for one, other in ((give(3), give(4)), (give(3), NONE), (give(3), give(3, "ann", "carl")), (NONE, give(1)),
                           (give(3), give(3, "ann", "bob", "silver")), (give(3), give(3, "bob", "ann")),
                           (give(3), ("later", 1, give(3))), (("later", 2, give(3)), ("later", 3, give(3)))):
            with self.subTest(one=one, other=other):
                self.assertTrue(self.parted(one, other, FEW))
                self.assertTrue(self.parted(one, other, (3, [])))

    def test_the_same_in_all_for_each_side_but_not_the_same(self):
        ring = together([give(1), give(1, "bob", "carl"), give(1, "carl", "ann")])
        self.assertTrue(self.parted(ring, NONE, FEW))

    def test_apart_in_one_future_alone(self):
        told = (3, [("rain", 0, [(1, 1), (-1, 3), (2, 2)])])
        for hour in (1, 2, 3):
            one = ("later", hour, ("if", above(2 * hour - 1), give(3), NONE))
            unlike = [rows for rows, _ in byhand.futures(*told) if byhand.owed(one, rows)]
            self.assertEqual(len(unlike), 3 ** (3 - hour))
            self.assertTrue(self.parted(one, NONE, told))
        self.assertEqual(apart(("later", 3, ("if", above(5), give(3), give(4))), ("later", 3, give(4)), Market(*told)),
                         rain(0, 2, 4, 6))
        market = Market(3, [("rain", 0, [(1, 1), (-1, 1)]), ("sun", 0, [(1, 1), (-1, 1)])])
        both = ("later", 3, ("if", ("all", above(2), ("below", SUN, num(-2))), give(3), NONE))
        self.assertEqual(apart(both, NONE, market), [{"rain": hour, "sun": -hour} for hour in range(4)])

    def test_apart_by_one_of_two_names_that_do_not_hang_together(self):
        one = ("both", ("later", 2, give(RAIN)), ("later", 2, give(SUN)))
        other = ("both", ("later", 2, give(RAIN)), ("later", 2, give(1)))
        self.assertTrue(self.parted(one, other, FEW))
        # What both names come to is apart from nothing in some futures, and set off in others.
        both = ("both", ("later", 1, give(RAIN)), ("later", 1, give(SUN, "bob", "ann")))
        self.assertTrue(self.parted(both, NONE, FEW))

    def test_what_is_fixed_of_each_name_may_be_set_off(self):
        told = (2, [("rain", 0, [(3, 1)]), ("sun", 1, [(2, 1)])])
        contract = ("both", ("later", 1, give(RAIN)), ("later", 1, give(SUN, "bob", "ann")))
        self.assertFalse(self.parted(contract, NONE, told))
        self.assertTrue(self.parted(("both", contract, contract), ("later", 1, give(1)), told))

    def test_of_many_futures(self):
        market = Market(*MANY)
        self.assertRaises(TooMany, market.futures)
        # In just one of all ways of rain.
        one = ("later", 12, ("if", above(11), give(3), give(4)))
        future = apart(one, ("later", 12, give(4)), market)
        self.assertIs(market.is_future(future), True)
        self.assertEqual([row["rain"] for row in future], list(range(13)))
        self.assertIsNone(apart(("later", 12, ("if", above(12), give(3), give(4))), ("later", 12, give(4)), market))
        one = ("often", 9, 1, ("when", above(2), give(("times", SUN, RAIN))))
        other = ("often", 9, 1, ("when", above(2), give(("times", RAIN, SUN))))
        self.assertIsNone(apart(one, other, market))
        future = apart(("both", one, ("later", 12, ("when", above(8), give(FOG)))), other, market)
        self.assertIs(market.is_future(future), True)
        self.assertGreater(future[12]["rain"], 8)

    def test_a_contract_and_what_is_left_of_it(self):
        rows = rain(0, 1, 2)
        told = (3, [("rain", 1, [(1, 1), (-1, 2)])])
        for contract in (("often", 5, 1, give(RAIN)), ("until", above(3), ("often", 9, 1, give(RAIN))),
                         ("when", above(2), ("later", 1, give(RAIN)))):
            ahead, rest = cut(contract, rows)
            whole = ("later", 3, rest)
            for future, _ in byhand.futures(*told):
                self.assertEqual([one for one in owed(contract, rows + future) if one[0] > 2],
                                 owed(whole, rows + future))
            self.assertFalse(self.parted(rest, cut(rest, [])[1], told))


class TestWhatIsHandedIn(InAllFutures):
    def test_it_stays_and_is_answered_alike_each_time(self):
        names = copy.deepcopy(FEW[1])
        market = Market(FEW[0], names)
        for word, contract in WORDS.items():
            with self.subTest(word=word):
                kept = copy.deepcopy(contract)
                asked = (
                    lambda: bounds(contract, market, "ann", "gold"),
                    lambda: worth(contract, market, "ann", "gold"),
                    lambda: stock(contract, market, "ann", "gold"),
                    lambda: apart(contract, give(1), market),
                    lambda: apart(contract, contract, market),
                )
                for ask in asked:
                    first = ask()
                    told = copy.deepcopy(first)
                    for part in first if isinstance(first, tuple) else [first]:
                        if isinstance(part, list):
                            part[0].clear()
                            part.append("spoilt")
                    self.assertEqual(ask(), told)
                self.assertEqual(contract, kept)
                self.assertEqual(names, FEW[1])
                self.assertEqual(market.futures(), byhand.futures(*FEW))

    def test_no_two_lists_or_dicts_of_an_answer_are_one(self):
        for told in (FEW, MANY, (3, []), (2, [("rain", 0, [(0, 1)])])):
            market = Market(*told)
            for future in (stock(give(3), market, "ann", "gold")[1], stock(NONE, market, "ann", "gold")[1],
                           apart(give(3), NONE, market), apart(("later", 2, give(3)), NONE, market)):
                self.assertEqual(len({id(row) for row in future}), len(future))
                self.assertIs(market.is_future(future), True)

    def test_contracts_that_read_nothing_in_a_market_without_names(self):
        market = Market(12, [])
        contract = ("often", 9, 1, give(3))
        self.assertEqual(bounds(contract, market, "bob", "gold"), (27, [{}] * 13, 27, [{}] * 13))
        self.assertEqual(worth(contract, market, "bob", "gold"), (27, 1))
        self.assertEqual(stock(contract, market, "ann", "gold"), (27, [{}] * 13))
        self.assertIsNone(apart(contract, ("both", give(3), ("later", 1, ("often", 8, 1, give(3)))), market))


class TestInterface(unittest.TestCase):
    def test_the_arguments_have_their_names(self):
        market = Market(0, [])
        self.assertEqual(bounds(contract=give(1), market=market, side="bob", good="gold"), (1, [{}], 1, [{}]))
        self.assertEqual(worth(contract=give(1), market=market, side="bob", good="gold"), (1, 1))
        self.assertEqual(stock(contract=give(1), market=market, side="ann", good="gold"), (1, [{}]))
        self.assertEqual(apart(one=give(1), other=NONE, market=market), [{}])

    def test_all_are_defined_in_their_file(self):
        for name in ("bounds", "worth", "stock", "apart"):
            self.assertEqual(getattr(file, name).__module__, "contractbook.bounds")


if __name__ == "__main__":
    unittest.main()
