"""The parts of contracts, and which goods and sides they have."""

import copy
import unittest

import byhand
from contractbook import parting as file
from contractbook.contracts import need_contract, size_of
from contractbook.going import cut, owed
from contractbook.parting import goods_of, of_good, of_side, sides_of
from samples import GOODS, NONE, PLACES, RAIN, SIDES, WORDS, above, draws, drawn_contract, drawn_market, give, together

SILVER = give(3, good="silver")
BACK = give(4, "bob", "carl")


class Parting(unittest.TestCase):
    def of_good_is(self, contract, good, told):
        kept = copy.deepcopy(contract)
        self.assertEqual(of_good(contract, good), told)
        self.assertEqual(contract, kept)
        self.assertEqual(size_of(told), size_of(contract))
        need_contract(told)

    def of_side_is(self, contract, side, told):
        kept = copy.deepcopy(contract)
        self.assertEqual(of_side(contract, side), told)
        self.assertEqual(contract, kept)
        self.assertEqual(size_of(told), size_of(contract))
        need_contract(told)


class TestOfGood(Parting):
    def test_of_a_give(self):
        self.of_good_is(give(RAIN), "gold", give(RAIN))
        self.of_good_is(give(RAIN), "silver", NONE)
        self.of_good_is(SILVER, "silver", SILVER)
        self.of_good_is(SILVER, "gold", NONE)
        self.of_good_is(give(0), "gold", give(0))
        self.of_good_is(NONE, "gold", NONE)

    def test_of_a_good_that_is_called_nearly_so(self):
        for good in ("gol", "golds", "g", "ogold"):
            self.of_good_is(give(1), good, NONE)

    def test_all_else_stays_as_it_is_told(self):
        for where, hold in PLACES.items():
            with self.subTest(where=where):
                inner = ("both", SILVER, ("both", give(1), NONE))
                without = ("both", NONE, ("both", give(1), NONE))
                self.of_good_is(hold(inner), "gold", hold(without))
                self.of_good_is(hold(hold(inner)), "gold", hold(hold(without)))
        self.of_good_is(("later", 0, ("often", 1, 7, ("if", above(3), SILVER, SILVER))), "gold",
                        ("later", 0, ("often", 1, 7, ("if", above(3), NONE, NONE))))
        self.of_good_is(("turned", "ann", "bob", ("turned", "bob", "ann", SILVER)), "gold",
                        ("turned", "ann", "bob", ("turned", "bob", "ann", NONE)))

    def test_in_each_place(self):
        self.of_good_is(("both", give(1), SILVER), "silver", ("both", NONE, SILVER))
        self.of_good_is(("if", above(1), give(1), SILVER), "silver", ("if", above(1), NONE, SILVER))
        self.of_good_is(("if", above(1), SILVER, give(1)), "silver", ("if", above(1), SILVER, NONE))
        self.of_good_is(("when", above(1), give(1)), "silver", ("when", above(1), NONE))
        self.of_good_is(("until", above(1), give(1)), "silver", ("until", above(1), NONE))

    def test_a_good_that_stands_nowhere(self):
        contract = together([give(1), SILVER, ("later", 2, give(2, "carl", "ann"))])
        self.of_good_is(contract, "tin", together([NONE, NONE, ("later", 2, NONE)]))

    def test_a_good_called_like_a_side_a_name_or_a_word(self):
        contract = ("both", give(RAIN, "ann", "gold", "ann"), give(RAIN, "gold", "ann", "rain"))
        self.of_good_is(contract, "ann", ("both", give(RAIN, "ann", "gold", "ann"), NONE))
        self.of_good_is(contract, "rain", ("both", NONE, give(RAIN, "gold", "ann", "rain")))
        self.of_good_is(contract, "gold", ("both", NONE, NONE))
        self.of_good_is(("both", give(1, good="give"), give(1, good="none")), "none",
                        ("both", NONE, give(1, good="none")))
        # Turned changes sides, and goods not at all.
        self.of_good_is(("turned", "gold", "tin", give(1)), "gold", ("turned", "gold", "tin", give(1)))
        self.of_good_is(("turned", "gold", "tin", give(1)), "tin", ("turned", "gold", "tin", NONE))

    def test_what_is_owed_is_just_that_good(self):
        for seed, draw in draws(21000, 200):
            last, names = drawn_market(draw)
            contract = drawn_contract(draw, [name for name, _, _ in names], draw.randint(1, 5))
            rows, _ = draw.choice(byhand.futures(last, names))
            rest = cut(contract, rows[:1])[1]
            with self.subTest(seed=seed):
                for good in GOODS + ("tin",):
                    told = [one for one in byhand.owed(contract, rows) if one[3] == good]
                    self.assertEqual(byhand.owed(of_good(contract, good), rows), told)
                    told = [one for one in owed(rest, rows) if one[3] == good]
                    self.assertEqual(owed(of_good(rest, good), rows), told)


class TestOfSide(Parting):
    def test_of_a_give(self):
        self.of_side_is(give(RAIN), "ann", give(RAIN))
        self.of_side_is(give(RAIN), "bob", give(RAIN))
        self.of_side_is(give(RAIN), "carl", NONE)
        self.of_side_is(give(0), "bob", give(0))
        self.of_side_is(NONE, "ann", NONE)

    def test_of_a_side_that_is_called_nearly_so(self):
        for side in ("an", "anna", "a", "nn", "annbob"):
            self.of_side_is(give(1), side, NONE)

    def test_all_else_stays_as_it_is_told(self):
        for where, hold in PLACES.items():
            if where != "turned":
                with self.subTest(where=where):
                    inner = ("both", BACK, ("both", give(1), NONE))
                    told = hold(("both", NONE, ("both", give(1), NONE)))
                    if where in ("both, ahead", "both, behind"):
                        told = tuple(NONE if part == give(50, "bob", "carl") else part for part in told)
                    self.of_side_is(hold(inner), "ann", told)
        self.of_side_is(("later", 0, ("often", 1, 7, ("if", above(3), BACK, BACK))), "ann",
                        ("later", 0, ("often", 1, 7, ("if", above(3), NONE, NONE))))

    def test_within_turned_the_side_that_stands_in_its_place_counts(self):
        inner = ("both", give(1), give(2, "bob", "carl"))
        for sides in (("ann", "carl"), ("carl", "ann")):
            self.of_side_is(("turned", *sides, inner), "ann",
                            ("turned", *sides, ("both", NONE, give(2, "bob", "carl"))))
            self.of_side_is(("turned", *sides, inner), "carl", ("turned", *sides, ("both", give(1), NONE)))
            self.of_side_is(("turned", *sides, inner), "bob", ("turned", *sides, inner))
        turned = ("turned", "bob", "dora", inner)
        self.of_side_is(turned, "dora", turned)
        self.of_side_is(turned, "bob", ("turned", "bob", "dora", ("both", NONE, NONE)))
        self.of_side_is(turned, "ann", ("turned", "bob", "dora", ("both", give(1), NONE)))

    def test_beside_turned_the_side_itself_counts(self):
        contract = ("both", ("turned", "ann", "carl", give(1)), give(1))
        self.of_side_is(contract, "ann", ("both", ("turned", "ann", "carl", NONE), give(1)))
        self.of_side_is(contract, "carl", ("both", ("turned", "ann", "carl", give(1)), NONE))

    def test_turned_within_turned(self):
        contract = ("turned", "ann", "carl", ("turned", "bob", "carl", ("both", give(1), give(2, "bob", "dora"))))
        # Bob comes to carl and then to ann; ann comes to carl.
        self.of_side_is(contract, "ann", contract)
        self.of_side_is(contract, "carl", ("turned", "ann", "carl", ("turned", "bob", "carl", ("both", give(1), NONE))))
        self.of_side_is(contract, "bob", ("turned", "ann", "carl", ("turned", "bob", "carl", ("both", NONE, NONE))))
        self.of_side_is(contract, "dora",
                        ("turned", "ann", "carl", ("turned", "bob", "carl", ("both", NONE, give(2, "bob", "dora")))))
        twice = ("turned", "ann", "carl", ("turned", "carl", "ann", give(1)))
        self.of_side_is(twice, "ann", twice)
        self.of_side_is(twice, "carl", ("turned", "ann", "carl", ("turned", "carl", "ann", NONE)))

    def test_a_side_that_stands_nowhere(self):
        contract = together([give(1), SILVER, ("later", 2, give(2, "carl", "ann"))])
        self.of_side_is(contract, "dora", together([NONE, NONE, ("later", 2, NONE)]))

    def test_a_side_called_like_a_good_a_name_or_a_word(self):
        contract = ("both", give(RAIN, "rain", "none", "give"), give(RAIN, "give", "ann", "none"))
        self.of_side_is(contract, "rain", ("both", give(RAIN, "rain", "none", "give"), NONE))
        self.of_side_is(contract, "none", ("both", give(RAIN, "rain", "none", "give"), NONE))
        self.of_side_is(contract, "give", ("both", NONE, give(RAIN, "give", "ann", "none")))
        self.of_side_is(give(RAIN), "rain", NONE)
        self.of_side_is(give(RAIN), "gold", NONE)

    def test_what_is_owed_is_just_that_sides(self):
        for seed, draw in draws(22000, 200):
            last, names = drawn_market(draw)
            contract = drawn_contract(draw, [name for name, _, _ in names], draw.randint(1, 5))
            rows, _ = draw.choice(byhand.futures(last, names))
            rest = cut(contract, rows[:1])[1]
            with self.subTest(seed=seed):
                for side in SIDES + ("dora",):
                    told = [one for one in byhand.owed(contract, rows) if side in one[1:3]]
                    self.assertEqual(byhand.owed(of_side(contract, side), rows), told)
                    told = [one for one in owed(rest, rows) if side in one[1:3]]
                    self.assertEqual(owed(of_side(rest, side), rows), told)


class TestGoodsAndSides(Parting):
    def are(self, contract, goods, sides):
        for found, told in ((goods_of(contract), goods), (sides_of(contract), sides)):
            self.assertIs(type(found), list)
            self.assertEqual(found, told)

    def test_of_a_give(self):
        self.are(give(1), ["gold"], ["ann", "bob"])
        self.are(give(1, "bob", "ann"), ["gold"], ["ann", "bob"])
        self.are(give(0), ["gold"], ["ann", "bob"])
        self.are(give(-2, "zoe", "yan", "tin"), ["tin"], ["yan", "zoe"])

    def test_without_a_give(self):
        for contract in (NONE, ("both", NONE, NONE), ("turned", "ann", "bob", NONE), ("later", 3, NONE),
                         ("often", 2, 1, NONE), ("if", above(1), NONE, NONE), ("when", above(1), NONE),
                         ("until", above(1), NONE)):
            self.are(contract, [], [])

    def test_ascending_each_once(self):
        parts = [give(1, "carl", "bob", "tin"), give(2, "bob", "ann", "gold"), give(3, "abe", "carl", "iron"),
                 give(1, "b", "aa", "tin"), give(1, "carl", "bob", "tin"), give(9, "bob", "zoe", "t")]
        for order in (parts, parts[::-1], parts[3:] + parts[:3]):
            self.are(together(order), ["gold", "iron", "t", "tin"], ["aa", "abe", "ann", "b", "bob", "carl", "zoe"])

    def test_in_each_place(self):
        for where, hold in PLACES.items():
            with self.subTest(where=where):
                contract = hold(give(1, "zoe", "yan", "tin"))
                self.assertIn("tin", goods_of(contract))
                self.assertEqual([side for side in sides_of(contract) if side in ("yan", "zoe")], ["yan", "zoe"])

    def test_what_is_never_begun_counts_all_the_same(self):
        never = ("below", ("num", 2), ("num", 1))
        self.are(("if", never, give(1), NONE), ["gold"], ["ann", "bob"])
        self.are(("when", never, give(1)), ["gold"], ["ann", "bob"])

    def test_a_side_by_turned_is_the_one_that_it_comes_to(self):
        self.are(("turned", "ann", "bob", give(1)), ["gold"], ["ann", "bob"])
        self.are(("turned", "ann", "dora", give(1)), ["gold"], ["bob", "dora"])
        self.are(("turned", "dora", "ann", give(1)), ["gold"], ["bob", "dora"])
        self.are(("turned", "carl", "dora", give(1)), ["gold"], ["ann", "bob"])
        self.are(("turned", "gold", "tin", give(1)), ["gold"], ["ann", "bob"])
        self.are(("both", ("turned", "ann", "dora", give(1)), give(1, "bob", "carl")),
                 ["gold"], ["bob", "carl", "dora"])

    def test_turned_within_turned(self):
        self.are(("turned", "dora", "eve", ("turned", "ann", "dora", give(1))), ["gold"], ["bob", "eve"])
        self.are(("turned", "ann", "dora", ("turned", "dora", "eve", give(1))), ["gold"], ["bob", "dora"])
        self.are(("turned", "ann", "dora", ("turned", "ann", "dora", give(1))), ["gold"], ["ann", "bob"])
        inner = ("both", give(1, "ann", "carl"), ("turned", "carl", "eve", give(1, "ann", "carl")))
        self.are(("turned", "ann", "bob", inner), ["gold"], ["bob", "carl", "eve"])

    def test_names_and_words_are_neither(self):
        self.are(("if", above(1), give(RAIN, "none", "both", "read"), NONE), ["read"], ["both", "none"])

    def test_of_parts(self):
        for seed, draw in draws(23000, 200):
            names = ["rain", "sun"]
            contract = drawn_contract(draw, names, draw.randint(1, 5))
            with self.subTest(seed=seed):
                for good in GOODS:
                    self.assertEqual(goods_of(of_good(contract, good)), [good] if good in goods_of(contract) else [])
                for side in SIDES:
                    part = of_side(contract, side)
                    self.assertEqual(side in sides_of(part), side in sides_of(contract))
                    self.assertEqual(sides_of(part) != [], side in sides_of(contract))

    def test_who_owes_is_among_them(self):
        for seed, draw in draws(24000, 200):
            last, names = drawn_market(draw)
            contract = drawn_contract(draw, [name for name, _, _ in names], draw.randint(1, 5))
            rows, _ = draw.choice(byhand.futures(last, names))
            rest = cut(contract, rows[:1])[1]
            with self.subTest(seed=seed):
                for told, found in ((contract, byhand.owed(contract, rows)), (rest, owed(rest, rows))):
                    for _, one, other, good, _ in found:
                        self.assertIn(one, sides_of(told))
                        self.assertIn(other, sides_of(told))
                        self.assertIn(good, goods_of(told))
                self.assertEqual([good for good in goods_of(rest) if good not in goods_of(contract)], [])
                self.assertEqual([side for side in sides_of(rest) if side not in sides_of(contract)], [])


class TestWhatIsHandedIn(Parting):
    def test_it_stays_and_is_answered_alike_each_time(self):
        for contract in [hold(inner) for hold in PLACES.values() for inner in WORDS.values()] + [NONE, give(1)]:
            kept = copy.deepcopy(contract)
            for ask in (goods_of, sides_of):
                found = ask(contract)
                told = list(found)
                found.append("spoilt")
                self.assertEqual(ask(contract), told)
            self.assertEqual(of_good(contract, "gold"), of_good(contract, "gold"))
            self.assertEqual(of_side(contract, "ann"), of_side(contract, "ann"))
            self.assertEqual(contract, kept)

    def test_contracts_a_little_beyond_the_limits(self):
        deep = give(10 ** 13, "Elizabeth", "bob", "greengold")
        for _ in range(40):
            deep = ("both", ("later", 100, deep), SILVER)
        self.assertEqual(goods_of(deep), ["greengold", "silver"])
        self.assertEqual(sides_of(deep), ["Elizabeth", "ann", "bob"])
        self.assertEqual(goods_of(of_good(deep, "greengold")), ["greengold"])
        self.assertEqual(sides_of(of_side(deep, "Elizabeth")), ["Elizabeth", "bob"])


class TestInterface(unittest.TestCase):
    def test_the_arguments_have_their_names(self):
        self.assertEqual(of_good(contract=give(1), good="gold"), give(1))
        self.assertEqual(of_side(contract=give(1), side="ann"), give(1))
        self.assertEqual(goods_of(contract=give(1)), ["gold"])
        self.assertEqual(sides_of(contract=give(1)), ["ann", "bob"])

    def test_all_are_defined_in_their_file(self):
        for name in ("of_good", "of_side", "goods_of", "sides_of"):
            self.assertEqual(getattr(file, name).__module__, "contractbook.parting")


if __name__ == "__main__":
    unittest.main()
