"""Contracts told shorter: each rule alone, rules that make others apply, and what stays as it is told."""

import copy
import unittest

import byhand
from contractbook import shorter as file
from contractbook.bounds import apart
from contractbook.contracts import need_contract, size_of
from contractbook.going import cut, owed
from contractbook.markets import Market
from contractbook.shorter import shorter
from samples import (NONE, PLACES, RAIN, WORDS, above, draws, drawn_condition, drawn_contract, drawn_market,
                     drawn_number, give, num)

BIGGEST = 10 ** 12 - 1
GIVE = give(1)
OTHER = give(RAIN, "bob", "carl")
HOLDS = ("below", num(1), num(2))
FAILS = ("below", num(2), num(2))
OPEN = above(1)
# Written numbers, but also what is read, so that no written number makes it sure.
OPEN_TOO = ("below", ("times", num(0), RAIN), num(1))
ROWS = ([], [{"rain": 0}], [{"rain": number} for number in (0, 2, -1, 3, 1, 1, 0, 5)],
        [{"rain": number} for number in (4, 4, -3, 0, 0, 2)])


class Shorter(unittest.TestCase):
    def shorter_is(self, contract, told, rows=ROWS):
        kept = copy.deepcopy(contract)
        self.assertEqual(shorter(contract), told)
        self.assertEqual(contract, kept)
        self.holds_of(contract, rows)

    def holds_of(self, contract, rows):
        """What holds whatever the contract."""
        found = shorter(contract)
        self.assertEqual(shorter(found), found)
        self.assertLessEqual(size_of(found), size_of(contract))
        self.nothing_is_left_to_do(found)
        for told in rows:
            self.assertEqual(byhand.owed(found, told), byhand.owed(contract, told))

    def stays(self, contract):
        self.shorter_is(contract, contract)

    def nothing_is_left_to_do(self, contract):
        """That none of the rules applies to a contract or to anything within."""
        for told in byhand.all_within(contract):
            word, inner = told[0], told[-1]
            if word == "give":
                self.assertNotEqual(inner, num(0))
                self.is_reckoned(inner)
            elif word == "both":
                self.assertNotIn(NONE, told[1:])
            elif word == "if":
                self.assertNotEqual(told[2], told[3])
            elif word != "none":
                self.assertNotEqual(inner, NONE)
            if word == "later":
                self.assertNotEqual(told[1], 0)
                self.assertFalse(inner[0] == "later" and told[1] + inner[1] <= 99)
            if word == "often":
                self.assertNotEqual(told[1], 1)
            if word == "turned":
                self.assertNotEqual(inner[0], "give")
                self.assertFalse(inner[0] == "turned" and sorted(inner[1:3]) == sorted(told[1:3]))
            if word in ("if", "when", "until"):
                self.assertIsNone(surely(told[1]))

    def is_reckoned(self, number):
        if number[0] not in ("num", "read"):
            if number[1][0] == number[2][0] == "num":
                self.assertGreater(abs(byhand.number(number, {})), BIGGEST)
            self.is_reckoned(number[1])
            self.is_reckoned(number[2])


def surely(asked):
    """Whether a condition is sure by written numbers, told otherwise: 'holds', 'fails' or None."""
    if asked[0] == "below":
        if "'read'" in repr(asked):
            return None
        return "holds" if byhand.condition(asked, {}) else "fails"
    parts = [surely(part) for part in asked[1:]]
    if asked[0] == "not":
        return {"holds": "fails", "fails": "holds", None: None}[parts[0]]
    enough, else_ = ("fails", "holds") if asked[0] == "all" else ("holds", "fails")
    if enough in parts:
        return enough
    return None if None in parts else else_


class TestGives(Shorter):
    def test_of_nought(self):
        self.shorter_is(give(0), NONE)
        self.shorter_is(give(0, "bob", "carl", "tin"), NONE)
        self.shorter_is(give(("minus", num(3), num(3))), NONE)
        self.stays(give(1))
        self.stays(give(-1))
        self.stays(give(RAIN))

    def test_what_is_reckoned_of_two_written_numbers_is_written(self):
        for word, number in (("plus", 10), ("minus", 4), ("times", 21), ("most", 7), ("least", 3)):
            self.shorter_is(give((word, num(7), num(3))), give(number))
        for word, number in (("plus", -4), ("minus", -10), ("times", -21), ("most", 3), ("least", -7)):
            self.shorter_is(give((word, num(-7), num(3))), give(number))
        self.shorter_is(give(("minus", num(3), num(7))), give(-4))

    def test_within_one_another(self):
        self.shorter_is(give(("plus", ("times", num(2), num(3)), ("minus", num(1), num(5)))), give(2))
        self.shorter_is(give(("most", RAIN, ("plus", num(2), num(3)))), give(("most", RAIN, num(5))))
        self.shorter_is(give(("most", ("plus", num(2), num(3)), RAIN)), give(("most", num(5), RAIN)))
        self.shorter_is(give(("times", ("plus", RAIN, ("minus", num(2), num(3))), num(4))),
                        give(("times", ("plus", RAIN, num(-1)), num(4))))

    def test_what_is_read_is_not_reckoned(self):
        for number in (("minus", RAIN, RAIN), ("times", num(0), RAIN), ("times", RAIN, num(0)), ("plus", RAIN, num(0)),
                       ("plus", ("plus", RAIN, num(1)), num(2)), ("most", RAIN, RAIN), ("times", num(1), RAIN)):
            with self.subTest(number=number):
                self.stays(give(number))

    def test_at_the_bounds_of_written_numbers(self):
        self.shorter_is(give(("plus", num(BIGGEST - 1), num(1))), give(BIGGEST))
        self.stays(give(("plus", num(BIGGEST), num(1))))
        self.shorter_is(give(("minus", num(1 - BIGGEST), num(1))), give(-BIGGEST))
        self.stays(give(("minus", num(-BIGGEST), num(1))))
        self.stays(give(("times", num(10 ** 6), num(10 ** 6))))
        self.stays(give(("times", num(-10 ** 6), num(10 ** 6))))
        self.shorter_is(give(("times", num(10 ** 6), num(10 ** 6 - 1))), give(10 ** 12 - 10 ** 6))
        self.stays(give(("times", num(BIGGEST), num(BIGGEST))))

    def test_within_what_is_too_large_and_around_it(self):
        large = ("times", num(10 ** 6), num(10 ** 6))
        # What is too large stays, and what is reckoned of it is not of two written numbers.
        self.stays(give(("minus", large, num(1))))
        self.stays(give(("minus", large, large)))
        self.shorter_is(give(("times", ("plus", num(10 ** 6), num(0)), ("times", num(10 ** 3), num(10 ** 3)))),
                        give(large))
        self.shorter_is(give(("minus", large, ("plus", num(1), num(2)))), give(("minus", large, num(3))))


class TestNone(Shorter):
    def test_none(self):
        self.stays(NONE)

    def test_both(self):
        self.shorter_is(("both", NONE, GIVE), GIVE)
        self.shorter_is(("both", GIVE, NONE), GIVE)
        self.shorter_is(("both", NONE, NONE), NONE)
        self.stays(("both", GIVE, GIVE))
        self.stays(("both", GIVE, OTHER))
        self.stays(("both", give(3), give(-3)))

    def test_all_that_is_around_one(self):
        for contract in (("later", 5, NONE), ("later", 0, NONE), ("often", 3, 2, NONE), ("often", 1, 2, NONE),
                         ("turned", "ann", "bob", NONE), ("when", OPEN, NONE), ("until", OPEN, NONE),
                         ("when", HOLDS, NONE), ("until", FAILS, NONE), ("if", OPEN, NONE, NONE)):
            with self.subTest(contract=contract):
                self.shorter_is(contract, NONE)

    def test_if_of_one_that_is_not_alike(self):
        self.stays(("if", OPEN, NONE, GIVE))
        self.stays(("if", OPEN, GIVE, NONE))


class TestIf(Shorter):
    def test_of_two_alike_ones(self):
        for inner in (GIVE, OTHER, ("both", GIVE, OTHER), ("later", 3, GIVE)):
            self.shorter_is(("if", OPEN, inner, copy.deepcopy(inner)), inner)

    def test_of_two_that_become_alike(self):
        self.shorter_is(("if", OPEN, ("later", 0, GIVE), ("both", NONE, GIVE)), GIVE)
        self.shorter_is(("if", OPEN, give(("plus", num(1), num(2))), give(3)), give(3))
        self.shorter_is(("if", OPEN, give(0), ("later", 3, NONE)), NONE)

    def test_of_two_that_owe_the_same_but_are_told_otherwise(self):
        self.stays(("if", OPEN, give(3), give(-3, "bob", "ann")))
        self.stays(("if", OPEN, ("both", GIVE, OTHER), ("both", OTHER, GIVE)))

    def test_of_a_sure_condition(self):
        self.shorter_is(("if", HOLDS, GIVE, OTHER), GIVE)
        self.shorter_is(("if", FAILS, GIVE, OTHER), OTHER)
        self.shorter_is(("if", HOLDS, NONE, OTHER), NONE)
        self.shorter_is(("if", FAILS, ("both", GIVE, OTHER), ("later", 0, GIVE)), GIVE)


class TestLater(Shorter):
    def test_by_no_hours(self):
        self.shorter_is(("later", 0, GIVE), GIVE)
        self.shorter_is(("later", 0, ("later", 0, GIVE)), GIVE)
        self.stays(("later", 1, GIVE))
        self.stays(("later", 99, GIVE))

    def test_of_later(self):
        self.shorter_is(("later", 1, ("later", 2, GIVE)), ("later", 3, GIVE))
        self.shorter_is(("later", 0, ("later", 2, GIVE)), ("later", 2, GIVE))
        self.shorter_is(("later", 2, ("later", 0, GIVE)), ("later", 2, GIVE))
        self.shorter_is(("later", 1, ("later", 2, ("later", 3, ("later", 4, GIVE)))), ("later", 10, GIVE))

    def test_of_99_and_100_hours_together(self):
        for hours in (1, 30, 49, 50, 98):
            self.shorter_is(("later", hours, ("later", 99 - hours, GIVE)), ("later", 99, GIVE))
            self.stays(("later", hours, ("later", 100 - hours, GIVE)))
        self.shorter_is(("later", 0, ("later", 99, GIVE)), ("later", 99, GIVE))
        self.shorter_is(("later", 99, ("later", 0, GIVE)), ("later", 99, GIVE))
        self.stays(("later", 99, ("later", 99, GIVE)))
        self.stays(("later", 99, ("later", 1, GIVE)))

    def test_inner_ones_first(self):
        self.shorter_is(("later", 50, ("later", 40, ("later", 30, GIVE))), ("later", 50, ("later", 70, GIVE)))
        self.shorter_is(("later", 30, ("later", 60, ("later", 50, GIVE))), ("later", 90, ("later", 50, GIVE)))
        self.shorter_is(("later", 30, ("later", 60, ("later", 50, ("later", 50, GIVE)))),
                        ("later", 90, ("later", 50, ("later", 50, GIVE))))

    def test_that_stands_within_something_else(self):
        self.stays(("later", 1, ("often", 2, 1, ("later", 1, GIVE))))
        self.stays(("later", 1, ("both", ("later", 1, GIVE), OTHER)))


class TestOften(Shorter):
    def test_once(self):
        for gap in (1, 2, 99):
            self.shorter_is(("often", 1, gap, GIVE), GIVE)
        self.shorter_is(("often", 1, 1, ("often", 1, 2, GIVE)), GIVE)

    def test_more_often(self):
        self.stays(("often", 2, 1, GIVE))
        self.stays(("often", 9, 99, GIVE))
        self.stays(("often", 2, 1, ("often", 2, 1, GIVE)))


class TestTurned(Shorter):
    WHOLE = ("both", give(1), give(2, "bob", "carl"))

    def test_of_the_same_two_sides_turned(self):
        for first in (("ann", "bob"), ("bob", "ann")):
            for second in (("ann", "bob"), ("bob", "ann")):
                self.shorter_is(("turned", *first, ("turned", *second, self.WHOLE)), self.WHOLE)

    def test_of_other_sides_turned(self):
        for second in (("ann", "carl"), ("carl", "ann"), ("bob", "carl"), ("carl", "bob"), ("carl", "dora")):
            self.stays(("turned", "ann", "bob", ("turned", *second, self.WHOLE)))

    def test_three_and_four_times(self):
        turned = ("turned", "ann", "bob", self.WHOLE)
        thrice = ("turned", "ann", "bob", ("turned", "bob", "ann", turned))
        self.shorter_is(thrice, turned)
        self.shorter_is(("turned", "bob", "ann", thrice), self.WHOLE)

    def test_of_a_give(self):
        self.shorter_is(("turned", "ann", "bob", give(RAIN)), give(RAIN, "bob", "ann"))
        self.shorter_is(("turned", "bob", "ann", give(RAIN)), give(RAIN, "bob", "ann"))
        self.shorter_is(("turned", "bob", "carl", give(3)), give(3, "ann", "carl"))
        self.shorter_is(("turned", "carl", "bob", give(3)), give(3, "ann", "carl"))
        self.shorter_is(("turned", "carl", "ann", give(3)), give(3, "carl", "bob"))
        self.shorter_is(("turned", "ann", "carl", give(3, good="carl")), give(3, "carl", "bob", "carl"))
        self.shorter_is(("turned", "carl", "dora", give(3)), give(3))

    def test_turned_within_turned_of_a_give(self):
        self.shorter_is(("turned", "ann", "carl", ("turned", "bob", "carl", give(3))), give(3, "carl", "ann"))
        self.shorter_is(("turned", "ann", "bob", ("turned", "ann", "bob", give(3))), give(3))

    def test_of_all_else(self):
        for word, inner in WORDS.items():
            if word not in ("none", "give", "turned"):
                self.stays(("turned", "ann", "bob", inner))


class TestSureConditions(Shorter):
    def becomes(self, asked, sure):
        """What a condition that is sure to hold, or to fail, or neither, makes of each of the three."""
        if sure is None:
            for contract in (("if", asked, GIVE, OTHER), ("when", asked, GIVE), ("until", asked, GIVE)):
                self.stays(contract)
            return
        self.shorter_is(("if", asked, GIVE, OTHER), GIVE if sure else OTHER)
        self.shorter_is(("when", asked, GIVE), GIVE if sure else NONE)
        self.shorter_is(("until", asked, GIVE), NONE if sure else GIVE)

    def test_below(self):
        self.becomes(("below", num(1), num(2)), True)
        self.becomes(("below", num(2), num(2)), False)
        self.becomes(("below", num(3), num(2)), False)
        self.becomes(("below", num(-3), num(-2)), True)
        self.becomes(("below", num(-2), num(-3)), False)

    def test_below_of_what_is_reckoned(self):
        self.becomes(("below", ("plus", num(1), num(1)), ("times", num(1), num(3))), True)
        self.becomes(("below", ("plus", num(1), num(2)), ("times", num(1), num(3))), False)
        self.becomes(("below", num(3), ("most", num(4), num(0))), True)
        self.becomes(("below", num(3), ("least", num(4), num(0))), False)
        self.becomes(("below", ("minus", num(0), ("times", num(2), num(2))), num(-3)), True)

    def test_what_is_reckoned_may_be_as_large_as_it_is(self):
        large = ("times", num(10 ** 6), num(10 ** 6))
        self.becomes(("below", num(BIGGEST), large), True)
        self.becomes(("below", large, num(BIGGEST)), False)
        self.becomes(("below", ("times", large, large), large), False)
        self.becomes(("below", large, ("plus", large, num(1))), True)

    def test_what_is_read_is_never_sure(self):
        for asked in (OPEN, OPEN_TOO, ("below", RAIN, RAIN), ("below", num(1), ("plus", num(1), RAIN)),
                      ("below", ("times", RAIN, num(0)), num(1)), ("below", ("least", num(0), RAIN), num(1))):
            self.becomes(asked, None)

    def test_not(self):
        self.becomes(("not", HOLDS), False)
        self.becomes(("not", FAILS), True)
        self.becomes(("not", ("not", HOLDS)), True)
        self.becomes(("not", OPEN), None)
        self.becomes(("not", ("not", OPEN)), None)

    def test_all(self):
        self.becomes(("all", HOLDS, HOLDS), True)
        self.becomes(("all", HOLDS, FAILS), False)
        self.becomes(("all", FAILS, HOLDS), False)
        self.becomes(("all", FAILS, FAILS), False)
        self.becomes(("all", OPEN, FAILS), False)
        self.becomes(("all", FAILS, OPEN), False)
        self.becomes(("all", OPEN, HOLDS), None)
        self.becomes(("all", HOLDS, OPEN), None)
        self.becomes(("all", OPEN, OPEN_TOO), None)

    def test_any(self):
        self.becomes(("any", HOLDS, HOLDS), True)
        self.becomes(("any", HOLDS, FAILS), True)
        self.becomes(("any", FAILS, HOLDS), True)
        self.becomes(("any", FAILS, FAILS), False)
        self.becomes(("any", OPEN, HOLDS), True)
        self.becomes(("any", HOLDS, OPEN), True)
        self.becomes(("any", OPEN, FAILS), None)
        self.becomes(("any", FAILS, OPEN), None)
        self.becomes(("any", OPEN, OPEN_TOO), None)

    def test_parts_that_hang_together_are_not_sure(self):
        self.becomes(("all", OPEN, ("not", OPEN)), None)
        self.becomes(("any", OPEN, ("not", OPEN)), None)

    def test_within_one_another(self):
        self.becomes(("not", ("all", OPEN, ("not", ("any", HOLDS, OPEN)))), True)
        self.becomes(("all", ("any", OPEN, HOLDS), ("not", FAILS)), True)
        self.becomes(("any", ("all", OPEN, FAILS), ("not", HOLDS)), False)
        self.becomes(("all", ("any", OPEN, FAILS), HOLDS), None)

    def test_conditions_stay_as_they_are_told(self):
        told = ("all", ("below", ("plus", num(1), num(2)), RAIN), HOLDS)
        for contract in (("if", told, GIVE, OTHER), ("when", told, GIVE), ("until", told, GIVE)):
            self.stays(contract)
        self.shorter_is(("when", told, ("until", told, give(("plus", num(1), num(2))))),
                        ("when", told, ("until", told, give(3))))


class TestTogether(Shorter):
    def test_in_each_place(self):
        for where, hold in PLACES.items():
            with self.subTest(where=where):
                inner = ("both", OTHER, ("often", 2, 1, give(2)))
                self.shorter_is(hold(("later", 0, ("both", inner, NONE))), hold(inner))

    def test_one_rule_makes_another_one_apply(self):
        whole = ("both", GIVE, OTHER)
        pairs = [
            (("later", 40, ("often", 1, 3, ("later", 40, whole))), ("later", 80, whole)),
            (("later", 3, ("both", NONE, ("later", 4, whole))), ("later", 7, whole)),
            (("later", 3, ("if", OPEN, ("later", 4, whole), ("later", 4, ("both", whole, NONE)))), ("later", 7, whole)),
            (("turned", "ann", "bob", ("later", 0, ("turned", "bob", "ann", whole))), whole),
            (("turned", "ann", "bob", ("often", 1, 1, GIVE)), give(1, "bob", "ann")),
            (("turned", "ann", "bob", ("both", give(0), GIVE)), give(1, "bob", "ann")),
            (("turned", "ann", "bob", ("turned", "ann", "carl", ("turned", "carl", "ann", GIVE))),
             give(1, "bob", "ann")),
            (("turned", "ann", "bob", ("turned", "ann", "carl",
                                       ("turned", "carl", "ann", ("turned", "bob", "ann", whole)))), whole),
            (("if", OPEN, ("if", HOLDS, GIVE, OTHER), ("when", HOLDS, GIVE)), GIVE),
            (("both", ("when", FAILS, GIVE), ("until", HOLDS, OTHER)), NONE),
            (("later", 4, ("when", OPEN, ("until", OPEN, ("often", 3, 2, ("turned", "ann", "bob", give(0)))))), NONE),
            (("both", ("both", give(("minus", num(2), num(2))), NONE), ("both", OTHER, ("later", 99, NONE))), OTHER),
        ]
        for contract, told in pairs:
            with self.subTest(contract=contract):
                self.shorter_is(contract, told)

    def test_what_no_rule_tells_stays(self):
        for contract in (("when", OPEN, ("when", OPEN, GIVE)), ("until", OPEN, ("until", OPEN, GIVE)),
                         ("both", ("later", 1, GIVE), ("later", 1, OTHER)), ("if", ("not", OPEN), GIVE, OTHER),
                         ("turned", "ann", "bob", ("later", 1, GIVE)), ("if", OPEN, ("if", OPEN, GIVE, OTHER), OTHER),
                         ("often", 2, 1, ("later", 1, GIVE)), ("turned", "carl", "dora", ("both", GIVE, GIVE))):
            self.stays(contract)

    def test_twelve_deep(self):
        contract = give(RAIN)
        for hold in (("later", 9), ("later", 91), ("often", 1, 1), ("later", 8), ("turned", "ann", "bob"), ("later", 0),
                     ("turned", "bob", "ann"), ("often", 2, 1), ("when", HOLDS), ("until", FAILS)):
            contract = (*hold, contract)
        need_contract(contract)
        told = ("often", 2, 1, ("later", 99, ("later", 9, give(RAIN))))
        self.shorter_is(contract, told)

    def test_drawn_contracts(self):
        for seed, draw in draws(31000, 800):
            last, names = drawn_market(draw, 30)
            read = [name for name, _, _ in names]
            contract = self.with_more_to_do(draw, drawn_contract(draw, read, draw.randint(0, 6)), read)
            rows = [rows for rows, _ in byhand.futures(last, names)]
            with self.subTest(seed=seed):
                self.holds_of(contract, draw.choices(rows, k=3))
                if size_of(contract) < 40:
                    self.assertIsNone(apart(contract, shorter(contract), Market(last, names)))

    def with_more_to_do(self, draw, contract, names):
        """The same with parts told in ways that some rule tells shorter."""
        inner = [self.with_more_to_do(draw, part, names) if part in byhand.all_within(contract)[1:] else part
                 for part in contract]
        told = tuple(inner)
        choice = draw.randint(0, 14)
        sides = draw.sample(("ann", "bob", "carl"), 2)
        more = {
            0: ("both", told, NONE), 1: ("both", give(0), told), 2: ("later", 0, told), 3: ("often", 1, 2, told),
            4: ("later", draw.choice((1, 50, 99)), told), 5: ("turned", *sides, told), 6: ("if", HOLDS, told, GIVE),
            7: ("when", ("not", FAILS), told), 8: ("until", ("all", OPEN if names == ["rain"] else FAILS, FAILS), told),
            9: ("turned", *sides, ("turned", *sides[::-1], told)),
            10: ("if", drawn_condition(draw, [], 2), told, OTHER if "rain" in names else GIVE),
            11: ("both", told, give(drawn_number(draw, names, 4))),
        }
        return more.get(choice, told)

    def test_rests(self):
        for seed, draw in draws(32000, 200):
            last, names = drawn_market(draw, 50)
            contract = drawn_contract(draw, [name for name, _, _ in names], draw.randint(2, 5))
            rows, _ = draw.choice(byhand.futures(last, names))
            _, rest = cut(contract, rows[:draw.randint(0, len(rows))])
            with self.subTest(seed=seed):
                self.holds_of(rest, [rows])
                self.assertEqual(owed(shorter(rest), rows), owed(rest, rows))
                self.assertIsNone(apart(shorter(rest), rest, Market(last, names)))


class TestWhatIsHandedIn(Shorter):
    def test_it_stays_and_is_answered_alike_each_time(self):
        for contract in [hold(inner) for hold in PLACES.values() for inner in WORDS.values()]:
            kept = copy.deepcopy(contract)
            first = shorter(contract)
            self.assertEqual(shorter(contract), first)
            self.assertEqual(contract, kept)
            self.holds_of(contract, ROWS)

    def test_words_of_the_language(self):
        contract = ("turned", "none", "give", ("both", NONE, give(("read", "num"), "give", "num", "none")))
        self.shorter_is(contract, give(("read", "num"), "none", "num", "none"), rows=[[{"num": 4}]])
        contract = ("turned", "turned", "none", ("later", 2, give(1, "none", "turned", "later")))
        self.shorter_is(contract, contract)

    def test_contracts_a_little_beyond_the_limits(self):
        self.stays(give(10 ** 13))
        self.shorter_is(give(("minus", num(10 ** 13), num(10 ** 13 - 4))), give(4))
        self.stays(("often", 12, 1, GIVE))
        self.stays(("later", 100, GIVE))
        self.shorter_is(("later", 0, ("later", 100, GIVE)), ("later", 100, GIVE))
        self.stays(("later", 1, ("later", 100, GIVE)))
        deep = GIVE
        for _ in range(60):
            deep = ("later", 1, ("both", NONE, deep))
        self.shorter_is(deep, ("later", 60, GIVE))


class TestInterface(unittest.TestCase):
    def test_the_argument_has_its_name(self):
        self.assertEqual(shorter(contract=give(0)), NONE)

    def test_it_is_defined_in_its_file(self):
        self.assertEqual(file.shorter.__module__, "contractbook.shorter")


if __name__ == "__main__":
    unittest.main()
