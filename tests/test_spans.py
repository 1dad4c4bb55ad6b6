"""Between what a side comes to in each hour, by the spans of what is read."""

import copy
import unittest

import byhand
from contractbook import spans as file
from contractbook.bounds import bounds
from contractbook.going import cut
from contractbook.markets import Market
from contractbook.spans import spans
from samples import GOODS, NONE, PLACES, RAIN, SIDES, WORDS, above, draws, drawn_contract, drawn_market, give, num

SUN = ("read", "sun")
FOG = ("read", "fog")
# Rain lies between -1 and 1, -2 and 2, -3 and 3; sun is 5, 7, 9, 11; fog lies between 1 and 1, 0 and 4, -1 and 7,
# -2 and 10.
NAMES = [("rain", 0, [(1, 1), (-1, 5)]), ("sun", 5, [(2, 1)]), ("fog", 1, [(1, 2), (3, 1), (-1, 3)])]
LAST = 3
# Can hold at no hour, in the second one alone, in the third one surely, in the second one maybe and then surely.
NEVER = ("below", SUN, num(5))
MAY_IN_SECOND = ("all", above(0), ("below", SUN, num(8)))
SURE_IN_THIRD = ("all", ("below", num(8), SUN), ("below", SUN, num(10)))
MAY_THEN_SURE = ("any", above(0), ("below", num(8), SUN))
ALWAYS = ("below", num(4), SUN)
EACH_HOUR = ("often", 9, 1, give(5))
NOUGHT = (0, 0)


class Spans(unittest.TestCase):
    def spans_are(self, contract, told, side="bob", good="gold", last=LAST, names=NAMES):
        found = spans(contract, Market(last, names), side, good)
        self.assertIs(type(found), list)
        for span in found:
            self.assertIs(type(span), tuple)
            self.assertEqual([type(number) for number in span], [int, int])
        self.assertEqual(found, told)
        self.assertEqual(byhand.spans(contract, last, names, side, good), told)

    def lies_between(self, contract, last, names, side, good):
        found = spans(contract, Market(last, names), side, good)
        self.assertEqual(found, byhand.spans(contract, last, names, side, good))
        self.covers(found, contract, last, names, side, good)

    def covers(self, found, contract, last, names, side, good):
        self.assertEqual(len(found), last + 1)
        for rows, _ in byhand.futures(last, names):
            for (low, high), number in zip(found, byhand.comes_by_hour(contract, rows, side, good)):
                self.assertLessEqual(low, number)
                self.assertLessEqual(number, high)


class TestNumbers(Spans):
    def number_is(self, number, told):
        """The spans of a number at each hour."""
        self.spans_are(("often", 4, 1, give(number)), told)

    def test_written(self):
        self.number_is(num(7), [(7, 7)] * 4)
        self.number_is(num(-7), [(-7, -7)] * 4)
        self.number_is(num(0), [NOUGHT] * 4)

    def test_read(self):
        self.number_is(RAIN, [NOUGHT, (-1, 1), (-2, 2), (-3, 3)])
        self.number_is(SUN, [(5, 5), (7, 7), (9, 9), (11, 11)])
        self.number_is(FOG, [(1, 1), (0, 4), (-1, 7), (-2, 10)])

    def test_plus(self):
        self.number_is(("plus", RAIN, FOG), [(1, 1), (-1, 5), (-3, 9), (-5, 13)])
        self.number_is(("plus", num(-4), FOG), [(-3, -3), (-4, 0), (-5, 3), (-6, 6)])

    def test_minus(self):
        self.number_is(("minus", RAIN, FOG), [(-1, -1), (-5, 1), (-9, 3), (-13, 5)])
        self.number_is(("minus", FOG, num(3)), [(-2, -2), (-3, 1), (-4, 4), (-5, 7)])

    def test_the_same_read_twice_is_told_by_the_ends_alone(self):
        self.number_is(("minus", RAIN, RAIN), [NOUGHT, (-2, 2), (-4, 4), (-6, 6)])
        self.number_is(("times", RAIN, RAIN), [NOUGHT, (-1, 1), (-4, 4), (-9, 9)])

    def test_times_on_both_sides_of_nought(self):
        ends = {
            ((-1, 2), (-3, 1)): (-6, 3), ((-2, 1), (-3, 1)): (-3, 6), ((1, 2), (-3, 1)): (-6, 2),
            ((-2, -1), (-3, 1)): (-2, 6), ((1, 2), (3, 4)): (3, 8), ((-2, -1), (-4, -3)): (3, 8),
            ((-2, -1), (3, 4)): (-8, -3), ((0, 2), (-3, 0)): (-6, 0), ((0, 0), (-3, 4)): (0, 0),
            ((-5, 1), (2, 3)): (-15, 3), ((-1, 5), (-3, -2)): (-15, 3),
        }
        for ((low, high), (other_low, other_high)), told in ends.items():
            names = [("rain", 0, [(high, 1), (low, 1)] if low < high else [(low, 1)]),
                     ("sun", 0, [(other_low, 1), (other_high, 1)])]
            with self.subTest(rain=(low, high), sun=(other_low, other_high)):
                self.spans_are(("later", 1, give(("times", RAIN, SUN))), [NOUGHT, told], last=1, names=names)
                self.spans_are(("later", 1, give(("times", SUN, RAIN))), [NOUGHT, told], last=1, names=names)

    def test_most(self):
        self.number_is(("most", RAIN, num(1)), [(1, 1), (1, 1), (1, 2), (1, 3)])
        self.number_is(("most", FOG, RAIN), [(1, 1), (0, 4), (-1, 7), (-2, 10)])
        self.number_is(("most", SUN, FOG), [(5, 5), (7, 7), (9, 9), (11, 11)])

    def test_least(self):
        self.number_is(("least", RAIN, num(1)), [NOUGHT, (-1, 1), (-2, 1), (-3, 1)])
        self.number_is(("least", FOG, RAIN), [NOUGHT, (-1, 1), (-2, 2), (-3, 3)])
        self.number_is(("least", SUN, num(8)), [(5, 5), (7, 7), (8, 8), (8, 8)])

    def test_within_one_another(self):
        number = ("minus", ("times", FOG, num(-2)), ("most", RAIN, ("plus", num(1), num(1))))
        self.number_is(number, [(-4, -4), (-10, -2), (-16, 0), (-23, 2)])
        deep = RAIN
        for _ in range(9):
            deep = ("plus", deep, deep)
        self.number_is(deep, [(-512 * hour, 512 * hour) for hour in range(4)])

    def test_steps_above_and_below_nought_alone(self):
        contract = ("often", 9, 1, give(RAIN))
        self.spans_are(contract, [(4, 4), (6, 7), (8, 10)], last=2, names=[("rain", 4, [(3, 1), (2, 1)])])
        self.spans_are(contract, [(4, 4), (1, 2), (-2, 0)], last=2, names=[("rain", 4, [(-3, 1), (-2, 1)])])
        self.spans_are(contract, [(4, 4), (4, 4), (4, 4)], last=2, names=[("rain", 4, [(0, 9)])])
        steps = [(3, 1), (-7, 900), (9, 2), (0, 1)]
        self.spans_are(contract, [(4, 4), (-3, 13), (-10, 22)], last=2, names=[("rain", 4, steps)])


class TestConditions(Spans):
    def cans_are(self, asked, told):
        """Whether a condition can hold and can fail at each hour: as a text of `h`, `f` or `hf` for each."""
        answers = {"h": (1, 1), "f": (10, 10), "hf": (1, 10)}
        contract = ("often", 4, 1, ("if", asked, give(1), give(10)))
        self.spans_are(contract, [answers[word] for word in told.split()])

    def test_below(self):
        self.cans_are(("below", num(3), num(4)), "h h h h")
        self.cans_are(("below", num(3), num(3)), "f f f f")
        self.cans_are(("below", num(4), num(3)), "f f f f")
        self.cans_are(("below", RAIN, num(1)), "h hf hf hf")
        self.cans_are(("below", RAIN, num(2)), "h h hf hf")
        self.cans_are(("below", RAIN, num(3)), "h h h hf")
        self.cans_are(("below", RAIN, num(-1)), "f f hf hf")
        self.cans_are(("below", RAIN, num(-2)), "f f f hf")
        self.cans_are(("below", num(1), RAIN), "f f hf hf")
        self.cans_are(("below", num(-1), RAIN), "h hf hf hf")
        self.cans_are(("below", num(-2), RAIN), "h h hf hf")
        self.cans_are(("below", FOG, SUN), "h h h h")
        self.cans_are(("below", SUN, FOG), "f f f f")
        self.cans_are(("below", FOG, ("minus", SUN, num(1))), "h h h hf")
        self.cans_are(("below", RAIN, FOG), "h hf hf hf")

    def test_below_of_the_same_read_twice(self):
        self.cans_are(("below", RAIN, RAIN), "f hf hf hf")

    def test_not(self):
        self.cans_are(("not", above(0)), "h hf hf hf")
        self.cans_are(("not", above(2)), "h h h hf")
        self.cans_are(("not", ("not", above(2))), "f f f hf")
        self.cans_are(("not", SURE_IN_THIRD), "h h f h")

    def test_all(self):
        self.cans_are(SURE_IN_THIRD, "f f h f")
        self.cans_are(MAY_IN_SECOND, "f hf f f")
        self.cans_are(("all", above(0), above(1)), "f f hf hf")
        self.cans_are(("all", ("below", RAIN, num(1)), ("below", SUN, num(10))), "h hf hf f")
        self.cans_are(("all", ("below", SUN, num(10)), ("below", RAIN, num(1))), "h hf hf f")
        self.cans_are(("all", ALWAYS, ALWAYS), "h h h h")

    def test_any(self):
        self.cans_are(MAY_THEN_SURE, "f hf h h")
        self.cans_are(("any", ("below", num(8), SUN), above(0)), "f hf h h")
        self.cans_are(("any", above(0), above(1)), "f hf hf hf")
        self.cans_are(("any", NEVER, SURE_IN_THIRD), "f f h f")
        self.cans_are(("any", SURE_IN_THIRD, ALWAYS), "h h h h")

    def test_told_by_the_parts_though_they_hang_together(self):
        self.cans_are(("all", above(0), ("not", above(0))), "f hf hf hf")
        self.cans_are(("any", above(0), ("not", above(0))), "h hf hf hf")


class TestSides(Spans):
    def test_who_gets_and_who_gives(self):
        contract = ("later", 1, give(FOG))
        self.spans_are(contract, [NOUGHT, (0, 4), NOUGHT, NOUGHT], "bob")
        self.spans_are(contract, [NOUGHT, (-4, 0), NOUGHT, NOUGHT], "ann")
        self.spans_are(give(3), [(-3, -3), NOUGHT, NOUGHT, NOUGHT], "ann")
        self.spans_are(give(-3), [(3, 3), NOUGHT, NOUGHT, NOUGHT], "ann")
        self.spans_are(give(-3), [(-3, -3), NOUGHT, NOUGHT, NOUGHT], "bob")

    def test_a_side_or_a_good_that_stands_nowhere(self):
        contract = ("both", EACH_HOUR, give(3, "bob", "carl"))
        for side, good in (("dora", "gold"), ("ann", "tin"), ("carl", "silver"), ("gold", "ann"), ("rain", "gold")):
            self.spans_are(contract, [NOUGHT] * 4, side, good)
        self.spans_are(contract, [(2, 2), (5, 5), (5, 5), (5, 5)], "bob")

    def test_a_side_called_like_a_good_or_a_name(self):
        contract = ("later", 1, give(RAIN, "rain", "gold"))
        self.spans_are(contract, [NOUGHT, (-1, 1), NOUGHT, NOUGHT], "gold")
        self.spans_are(contract, [NOUGHT, (-1, 1), NOUGHT, NOUGHT], "rain")
        self.spans_are(contract, [NOUGHT] * 4, "gold", "rain")

    def test_turned(self):
        inner = ("later", 1, give(FOG))
        up, down = [NOUGHT, (0, 4), NOUGHT, NOUGHT], [NOUGHT, (-4, 0), NOUGHT, NOUGHT]
        for sides in (("ann", "bob"), ("bob", "ann")):
            self.spans_are(("turned", *sides, inner), up, "ann")
            self.spans_are(("turned", *sides, inner), down, "bob")
        for sides in (("bob", "carl"), ("carl", "bob")):
            self.spans_are(("turned", *sides, inner), up, "carl")
            self.spans_are(("turned", *sides, inner), [NOUGHT] * 4, "bob")
            self.spans_are(("turned", *sides, inner), down, "ann")
        self.spans_are(("turned", "carl", "dora", inner), up, "bob")
        self.spans_are(("turned", "carl", "dora", inner), [NOUGHT] * 4, "carl")

    def test_turned_within_turned(self):
        # Carl comes to what bob would, by the inner one, and that stands in ann's place, by the outer one.
        contract = ("turned", "ann", "carl", ("turned", "bob", "carl", give(FOG)))
        self.spans_are(contract, [(1, 1), NOUGHT, NOUGHT, NOUGHT], "ann")
        self.spans_are(contract, [(-1, -1), NOUGHT, NOUGHT, NOUGHT], "carl")
        self.spans_are(contract, [NOUGHT] * 4, "bob")
        pairs = [("ann", "bob"), ("bob", "carl"), ("carl", "ann"), ("dora", "ann")]
        for first in pairs:
            for second in pairs:
                for third in pairs:
                    contract = ("turned", *first, ("turned", *second, ("both", give(1), ("turned", *third, give(FOG)))))
                    for side in ("ann", "bob", "carl", "dora"):
                        with self.subTest(first=first, second=second, third=third, side=side):
                            self.lies_between(contract, 1, NAMES, side, "gold")


class TestEachWord(Spans):
    def test_none(self):
        self.spans_are(NONE, [NOUGHT] * 4)
        self.spans_are(NONE, [NOUGHT], last=0, names=[])
        self.spans_are(NONE, [NOUGHT] * 13, last=12, names=[])

    def test_give(self):
        self.spans_are(give(FOG), [(1, 1), NOUGHT, NOUGHT, NOUGHT])

    def test_both(self):
        contract = ("both", ("later", 2, give(FOG)), ("later", 2, give(RAIN, "bob", "carl")))
        self.spans_are(contract, [NOUGHT, NOUGHT, (-3, 9), NOUGHT])
        contract = ("both", ("later", 2, give(FOG)), ("later", 2, give(FOG, "bob", "carl")))
        self.spans_are(contract, [NOUGHT, NOUGHT, (-8, 8), NOUGHT])
        self.spans_are(("both", give(3), ("later", 3, give(4))), [(3, 3), NOUGHT, NOUGHT, (4, 4)])

    def test_later(self):
        for hours in range(6):
            told = [(5 + 2 * hour,) * 2 if hour == hours else NOUGHT for hour in range(4)]
            self.spans_are(("later", hours, give(SUN)), told)
        self.spans_are(("later", 1, ("later", 2, give(SUN))), [NOUGHT, NOUGHT, NOUGHT, (11, 11)])
        self.spans_are(("later", 2, ("later", 2, give(SUN))), [NOUGHT] * 4)
        self.spans_are(("later", 99, ("often", 9, 99, give(SUN))), [NOUGHT] * 4)

    def test_often(self):
        self.spans_are(("often", 1, 1, give(SUN)), [(5, 5), NOUGHT, NOUGHT, NOUGHT])
        self.spans_are(("often", 2, 1, give(SUN)), [(5, 5), (7, 7), NOUGHT, NOUGHT])
        self.spans_are(("often", 2, 2, give(SUN)), [(5, 5), NOUGHT, (9, 9), NOUGHT])
        self.spans_are(("often", 9, 3, give(SUN)), [(5, 5), NOUGHT, NOUGHT, (11, 11)])
        self.spans_are(("often", 9, 4, give(SUN)), [(5, 5), NOUGHT, NOUGHT, NOUGHT])
        self.spans_are(("often", 2, 1, ("often", 2, 1, give(FOG))), [(1, 1), (0, 8), (-1, 7), NOUGHT])
        self.spans_are(("often", 2, 1, ("both", give(1), ("later", 1, give(10)))),
                       [(1, 1), (11, 11), (10, 10), NOUGHT])

    def test_if(self):
        both = ("both", give(3), ("later", 2, give(-4)))
        choose = ("if", above(0), both, ("later", 1, give(6)))
        # At hour 0 it can't hold; at hour 1 it can hold and fail.
        self.spans_are(choose, [NOUGHT, (6, 6), NOUGHT, NOUGHT])
        self.spans_are(("if", ("not", above(0)), both, ("later", 1, give(6))), [(3, 3), NOUGHT, (-4, -4), NOUGHT])
        self.spans_are(("later", 1, choose), [NOUGHT, (0, 3), (0, 6), (-4, 0)])
        self.spans_are(("later", 1, ("if", above(0), give(3), give(7))), [NOUGHT, (3, 7), NOUGHT, NOUGHT])
        self.spans_are(("later", 1, ("if", above(0), give(7), give(3))), [NOUGHT, (3, 7), NOUGHT, NOUGHT])
        self.spans_are(("later", 2, ("if", SURE_IN_THIRD, give(3), give(7))), [NOUGHT, NOUGHT, (3, 3), NOUGHT])
        self.spans_are(("later", 3, ("if", SURE_IN_THIRD, give(3), give(7))), [NOUGHT, NOUGHT, NOUGHT, (7, 7)])

    def test_if_behind_the_last_hour(self):
        self.spans_are(("later", 4, ("if", above(0), give(3), give(7))), [NOUGHT] * 4)


class TestWhen(Spans):
    def test_it_can_fail_at_all_hours(self):
        self.spans_are(("when", above(0), give(5)), [NOUGHT, (0, 5), (0, 5), (0, 5)])
        self.spans_are(("when", above(1), give(-5)), [NOUGHT, NOUGHT, (-5, 0), (-5, 0)])
        self.spans_are(("when", MAY_IN_SECOND, give(5)), [NOUGHT, (0, 5), NOUGHT, NOUGHT])
        self.spans_are(("when", ("not", above(0)), give(5)), [(5, 5), NOUGHT, NOUGHT, NOUGHT])

    def test_it_can_hold_at_no_hour(self):
        self.spans_are(("when", NEVER, give(5)), [NOUGHT] * 4)
        self.spans_are(("when", above(3), ("often", 9, 1, give(5))), [NOUGHT] * 4)

    def test_it_can_not_fail_at_an_hour(self):
        self.spans_are(("when", SURE_IN_THIRD, give(SUN)), [NOUGHT, NOUGHT, (9, 9), NOUGHT])
        self.spans_are(("when", ALWAYS, EACH_HOUR), [(5, 5)] * 4)
        # It can begin at hours 1 and 2, and not behind these though the condition holds at hour 3, too.
        self.spans_are(("when", MAY_THEN_SURE, give(5)), [NOUGHT, (0, 5), (0, 5), NOUGHT])

    def test_nothing_is_covered_only_where_it_can_fail_at_all_hours(self):
        # Hour 2 is hour 2 of the one that begins at hour 1, or of the one that begins there; nothing isn't among them.
        inner = ("both", give(5), ("later", 1, give(7)))
        self.spans_are(("when", MAY_THEN_SURE, inner), [NOUGHT, (0, 5), (5, 7), (0, 7)])
        self.spans_are(("when", MAY_THEN_SURE, EACH_HOUR), [NOUGHT, (0, 5), (5, 5), (5, 5)])
        self.spans_are(("when", above(0), EACH_HOUR), [NOUGHT, (0, 5), (0, 5), (0, 5)])
        # Here it is sure at the last hour alone.
        self.spans_are(("when", ("any", above(0), ("below", num(10), SUN)), EACH_HOUR),
                       [NOUGHT, (0, 5), (0, 5), (5, 5)])

    def test_the_first_hour_is_the_one_at_which_it_begins(self):
        self.spans_are(("later", 1, ("when", ("not", above(0)), give(5))), [NOUGHT, (0, 5), (0, 5), (0, 5)])
        self.spans_are(("later", 3, ("when", SURE_IN_THIRD, EACH_HOUR)), [NOUGHT] * 4)
        self.spans_are(("later", 2, ("when", SURE_IN_THIRD, EACH_HOUR)), [NOUGHT, NOUGHT, (5, 5), (5, 5)])
        self.spans_are(("later", 3, ("when", MAY_THEN_SURE, give(5))), [NOUGHT, NOUGHT, NOUGHT, (5, 5)])
        self.spans_are(("later", 4, ("when", ALWAYS, give(5))), [NOUGHT] * 4)

    def test_within_one_another(self):
        self.spans_are(("when", SURE_IN_THIRD, ("when", MAY_THEN_SURE, give(5))), [NOUGHT, NOUGHT, (5, 5), NOUGHT])
        self.spans_are(("when", MAY_THEN_SURE, ("when", SURE_IN_THIRD, give(5))), [NOUGHT, NOUGHT, (5, 5), NOUGHT])
        self.spans_are(("when", above(1), ("when", MAY_IN_SECOND, give(5))), [NOUGHT] * 4)
        self.spans_are(("often", 3, 1, ("when", MAY_THEN_SURE, give(5))), [NOUGHT, (0, 10), (5, 15), NOUGHT])
        self.spans_are(("often", 4, 1, ("when", MAY_IN_SECOND, give(5))), [NOUGHT, (0, 10), NOUGHT, NOUGHT])


class TestUntil(Spans):
    def test_from_the_first_hour_on_at_which_it_can_hold(self):
        self.spans_are(("until", above(0), EACH_HOUR), [(5, 5), (0, 5), (0, 5), (0, 5)])
        self.spans_are(("until", above(1), EACH_HOUR), [(5, 5), (5, 5), (0, 5), (0, 5)])
        self.spans_are(("until", MAY_IN_SECOND, EACH_HOUR), [(5, 5), (0, 5), (0, 5), (0, 5)])
        self.spans_are(("until", NEVER, EACH_HOUR), [(5, 5)] * 4)

    def test_from_the_first_hour_on_at_which_it_can_not_fail(self):
        self.spans_are(("until", SURE_IN_THIRD, EACH_HOUR), [(5, 5), (5, 5), NOUGHT, NOUGHT])
        self.spans_are(("until", MAY_THEN_SURE, EACH_HOUR), [(5, 5), (0, 5), NOUGHT, NOUGHT])
        self.spans_are(("until", ALWAYS, EACH_HOUR), [NOUGHT] * 4)
        self.spans_are(("until", ("below", RAIN, num(1)), EACH_HOUR), [NOUGHT] * 4)

    def test_nought_is_covered(self):
        each = ("often", 9, 1, give(("plus", FOG, num(3))))
        self.spans_are(("until", NEVER, each), [(4, 4), (3, 7), (2, 10), (1, 13)])
        self.spans_are(("until", above(0), each), [(4, 4), (0, 7), (0, 10), (0, 13)])
        self.spans_are(("until", above(0), each), [(-4, -4), (-7, 0), (-10, 0), (-13, 0)], "ann")
        self.spans_are(("until", above(0), ("often", 9, 1, give(RAIN))), [NOUGHT, (-1, 1), (-2, 2), (-3, 3)])

    def test_the_first_hour_is_the_one_at_which_it_begins(self):
        self.spans_are(("later", 3, ("until", SURE_IN_THIRD, EACH_HOUR)), [NOUGHT, NOUGHT, NOUGHT, (5, 5)])
        self.spans_are(("later", 2, ("until", SURE_IN_THIRD, EACH_HOUR)), [NOUGHT] * 4)
        self.spans_are(("later", 2, ("until", MAY_IN_SECOND, EACH_HOUR)), [NOUGHT, NOUGHT, (5, 5), (5, 5)])
        self.spans_are(("later", 1, ("until", MAY_IN_SECOND, EACH_HOUR)), [NOUGHT, (0, 5), (0, 5), (0, 5)])
        self.spans_are(("later", 4, ("until", ALWAYS, EACH_HOUR)), [NOUGHT] * 4)

    def test_what_begins_behind_the_hour_counts_all_the_same(self):
        self.spans_are(("until", MAY_IN_SECOND, ("later", 3, give(5))), [NOUGHT, NOUGHT, NOUGHT, (0, 5)])
        self.spans_are(("until", SURE_IN_THIRD, ("later", 3, give(5))), [NOUGHT] * 4)
        self.spans_are(("until", SURE_IN_THIRD, ("later", 1, give(5))), [NOUGHT, (5, 5), NOUGHT, NOUGHT])

    def test_within_one_another(self):
        self.spans_are(("until", above(1), ("until", above(0), EACH_HOUR)), [(5, 5), (0, 5), (0, 5), (0, 5)])
        self.spans_are(("until", MAY_IN_SECOND, ("until", SURE_IN_THIRD, EACH_HOUR)), [(5, 5), (0, 5), NOUGHT, NOUGHT])
        self.spans_are(("when", SURE_IN_THIRD, ("until", above(2), EACH_HOUR)), [NOUGHT, NOUGHT, (5, 5), (0, 5)])
        self.spans_are(("until", MAY_IN_SECOND, ("when", SURE_IN_THIRD, EACH_HOUR)), [NOUGHT, NOUGHT, (0, 5), (0, 5)])
        self.spans_are(("often", 4, 1, ("until", SURE_IN_THIRD, ("often", 2, 1, give(5)))),
                       [(5, 5), (10, 10), NOUGHT, (5, 5)])


class TestAgainstAllFutures(Spans):
    def test_each_word_within_each_word(self):
        for where, hold in PLACES.items():
            for word, inner in WORDS.items():
                contract = hold(inner)
                for last in (0, 1, 4):
                    with self.subTest(where=where, word=word, last=last):
                        for side in ("ann", "bob", "carl", "dora"):
                            self.lies_between(contract, last, [("rain", 0, [(2, 1), (-1, 3)])], side, "gold")

    def test_drawn_contracts(self):
        for seed, draw in draws(11000, 600):
            last, names = drawn_market(draw, 100)
            contract = drawn_contract(draw, [name for name, _, _ in names], draw.randint(0, 5))
            with self.subTest(seed=seed):
                for side in SIDES:
                    self.lies_between(contract, last, names, side, draw.choice(GOODS))

    def test_drawn_rests(self):
        for seed, draw in draws(12000, 150):
            last, names = drawn_market(draw, 100)
            contract = drawn_contract(draw, [name for name, _, _ in names], draw.randint(2, 5))
            rows, _ = draw.choice(byhand.futures(last, names))
            _, rest = cut(contract, rows[:draw.randint(0, len(rows))])
            side, good = draw.choice(SIDES), draw.choice(GOODS)
            with self.subTest(seed=seed):
                self.covers(spans(rest, Market(last, names), side, good), rest, last, names, side, good)

    def test_of_very_many_futures(self):
        steps = [(1, 1), (100, 2), (-10000, 3), (1000000, 4)]
        market = Market(12, [("rain", 0, steps), ("sun", 7, steps), ("fog", 0, steps)])
        contract = ("often", 9, 1, ("when", ("below", RAIN, SUN), give(("plus", FOG, ("times", num(2), SUN)))))
        found = spans(contract, market, "bob", "gold")
        # At hour 0 it is sure to begin; behind that it may have begun at any hour, or may yet begin.
        self.assertEqual(found[0], (14, 14))
        self.assertEqual(found[1], (14 - 3 * 10000, 14 + 3 * 1000000))
        self.assertEqual(len(found), 13)
        least, _, most, _ = bounds(("often", 2, 6, give(("minus", RAIN, SUN))), market, "bob", "gold")
        low, high = zip(*spans(("often", 2, 6, give(("minus", RAIN, SUN))), market, "bob", "gold"))
        self.assertEqual((least, most), (sum(low), sum(high)))

    def test_contracts_a_little_beyond_the_limits(self):
        self.spans_are(("later", 100, give(3)), [NOUGHT] * 4)
        self.spans_are(("often", 11, 1, give(3)), [(3, 3)] * 11 + [NOUGHT] * 2, last=12)
        self.spans_are(("often", 2, 100, give(3)), [(3, 3), NOUGHT, NOUGHT, NOUGHT])
        for contract, low in ((("often", 0, 1, give(3)), 0), (("often", 2, 0, give(3)), 6), (("later", -1, give(3)), 3)):
            self.assertEqual(spans(contract, Market(2, []), "bob", "gold"), [(low, low), NOUGHT, NOUGHT])
        self.spans_are(give(10 ** 12), [(10 ** 12,) * 2, NOUGHT, NOUGHT, NOUGHT])
        self.spans_are(give(3, "Ann", "elizabeth", "greengold"), [(3, 3), NOUGHT, NOUGHT, NOUGHT], "elizabeth",
                       "greengold")
        deep = EACH_HOUR
        for _ in range(20):
            deep = ("until", above(1), ("both", deep, NONE))
        self.spans_are(deep, [(5, 5), (5, 5), (0, 5), (0, 5)])


class TestWhatIsHandedIn(Spans):
    def test_it_stays_and_is_answered_alike_each_time(self):
        names = copy.deepcopy(NAMES)
        market = Market(LAST, names)
        for contract in [hold(inner) for hold in PLACES.values() for inner in WORDS.values()]:
            kept = copy.deepcopy(contract)
            found = spans(contract, market, "bob", "gold")
            told = list(found)
            found[0] = "spoilt"
            found.append("spoilt")
            self.assertEqual(spans(contract, market, "bob", "gold"), told)
            self.assertEqual((contract, names), (kept, NAMES))
            self.assertEqual(market.futures(), byhand.futures(LAST, NAMES))


class TestInterface(unittest.TestCase):
    def test_the_arguments_have_their_names(self):
        self.assertEqual(spans(contract=give(1), market=Market(0, []), side="ann", good="gold"), [(-1, -1)])

    def test_it_is_defined_in_its_file(self):
        self.assertEqual(file.spans.__module__, "contractbook.spans")


if __name__ == "__main__":
    unittest.main()
