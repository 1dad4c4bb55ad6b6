"""What a market is, and the futures that it tells."""

import copy
import unittest

import byhand
from contractbook import markets
from contractbook.bounds import bounds
from contractbook.errors import BadContract, BadMarket, BadText, BookError, TooMany
from contractbook.markets import Market
from samples import RAIN, draws, drawn_market, give

BIGGEST = 10 ** 12 - 1
RAIN_STEPS = [(1, 2), (0, 3), (-1, 1)]
SUN_STEPS = [(5, 1), (-5, 4)]
FOG_STEPS = [(7, 999)]
NAMES = [("rain", 0, RAIN_STEPS), ("sun", 10, SUN_STEPS), ("fog", -3, FOG_STEPS)]
NO_WORDS = ["", "abcdefghi", "Rain", "RAIN", "ra in", " rain", "rain ", "rain1", "1", "r-n", "r_n", "\u00e9t\u00e9",
            "\u0430", "\n", "rain\n", None, True, False, 0, 5, 1.5, b"rain", b"", (), ("rain",), ["rain"], [], {},
            {"rain": 1}]
NO_NUMBERS = [True, False, None, 1.0, 2.5, float("nan"), "", "1", "rain", b"1", (), (1,), [1], [], {}, ("num", 1),
              object()]


class Markets(unittest.TestCase):
    def good(self, last, names):
        try:
            return Market(last, names)
        except BookError as error:
            return self.fail(f"refused: {last!r}, {names!r}: {error}")

    def refused(self, last, names):
        with self.assertRaises(BadMarket) as caught:
            Market(last, names)
        self.assertIsInstance(caught.exception, BookError)
        self.assertIsInstance(caught.exception, ValueError)
        for other in (BadContract, TooMany, BadText):
            self.assertNotIsInstance(caught.exception, other)


class TestGoodOnes(Markets):
    def test_none_to_three_names(self):
        for many in range(4):
            for last in (0, 1, 3, 12):
                with self.subTest(many=many, last=last):
                    self.good(last, NAMES[:many])

    def test_the_last_hour_at_its_bounds(self):
        for last in range(13):
            with self.subTest(last=last):
                self.good(last, [])
                self.good(last, NAMES)

    def test_names_at_their_bounds(self):
        for name in ("a", "z", "ab", "zzzzzzz", "abcdefgh", "num", "none", "read"):
            with self.subTest(name=name):
                self.good(2, [(name, 0, RAIN_STEPS)])
        self.good(2, [("a", 0, RAIN_STEPS), ("aa", 0, RAIN_STEPS), ("b", 0, RAIN_STEPS)])

    def test_numbers_at_their_bounds(self):
        for number in (0, 1, -1, BIGGEST, -BIGGEST):
            with self.subTest(number=number):
                self.good(2, [("rain", number, RAIN_STEPS)])
                self.good(2, [("rain", 0, [(number, 1)])])
                self.good(2, [("rain", 0, [(2, 1), (number, 1)])])

    def test_one_to_four_steps(self):
        for many in range(1, 5):
            with self.subTest(many=many):
                self.good(2, [("rain", 0, [(step, 1) for step in range(many)])])

    def test_weights_at_their_bounds(self):
        for weight in (1, 2, 500, 998, 999):
            with self.subTest(weight=weight):
                self.good(2, [("rain", 0, [(1, weight)])])
                self.good(2, [("rain", 0, [(1, 1), (2, weight)])])

    def test_steps_of_the_same_weight_and_of_other_names_may_be_alike(self):
        self.good(2, [("rain", 0, [(1, 5), (2, 5)]), ("sun", 0, [(1, 5), (2, 5)])])
        self.good(2, [("rain", 1, [(1, 1), (-1, 1)])])


class TestRefusals(Markets):
    def test_the_last_hour(self):
        for last in (-1, -2, -100, 13, 14, 100, 10 ** 20):
            with self.subTest(last=last):
                self.refused(last, [])
                self.refused(last, NAMES)

    def test_the_last_hour_is_no_whole_number(self):
        for last in NO_NUMBERS:
            with self.subTest(last=last):
                self.refused(last, [])
                self.refused(last, NAMES)

    def test_more_than_three_names(self):
        for many in (4, 5, 20):
            with self.subTest(many=many):
                self.refused(1, [("abcdefghijklmnopqrst"[at], 0, RAIN_STEPS) for at in range(many)])

    def test_names_that_are_no_list(self):
        for names in (tuple(NAMES), (), None, 0, True, "", "rain", {}, {"rain": NAMES[0]}, set(), b"", NAMES[0],
                      iter(NAMES)):
            with self.subTest(names=names):
                self.refused(1, names)

    def test_a_name_in_another_form(self):
        for told in (None, 0, True, "rain", "abc", b"abc", (), [], {}, ["rain", 0, RAIN_STEPS], ("rain",), ("rain", 0),
                     ("rain", RAIN_STEPS), ("rain", 0, RAIN_STEPS, 1), ("rain", 0, RAIN_STEPS, ()),
                     (0, "rain", RAIN_STEPS), ("rain", RAIN_STEPS, 0), {"rain": 0}, (("rain", 0, RAIN_STEPS),),
                     [("rain", 0, RAIN_STEPS)]):
            with self.subTest(told=told):
                self.refused(1, [told])
                self.refused(1, [NAMES[1], told])
                self.refused(0, [told, NAMES[1]])

    def test_names_that_are_no_words(self):
        for name in NO_WORDS:
            with self.subTest(name=name):
                self.refused(1, [(name, 0, RAIN_STEPS)])
                self.refused(1, [NAMES[1], (name, 0, RAIN_STEPS)])

    def test_a_name_twice(self):
        self.refused(1, [NAMES[0], NAMES[0]])
        self.refused(1, [NAMES[0], ("rain", 5, SUN_STEPS)])
        self.refused(0, [NAMES[0], NAMES[1], ("rain", 0, FOG_STEPS)])
        self.refused(1, [NAMES[1], NAMES[0], ("rain", 0, FOG_STEPS)])

    def test_numbers_at_hour_nought(self):
        for number in (10 ** 12, -10 ** 12, 10 ** 12 + 1, -10 ** 30):
            with self.subTest(number=number):
                self.refused(1, [("rain", number, RAIN_STEPS)])
                self.refused(0, [NAMES[1], ("rain", number, RAIN_STEPS)])

    def test_numbers_at_hour_nought_that_are_no_whole_numbers(self):
        for number in NO_NUMBERS:
            with self.subTest(number=number):
                self.refused(1, [("rain", number, RAIN_STEPS)])

    def test_no_steps_and_more_than_four(self):
        for many in (0, 5, 6, 40):
            with self.subTest(many=many):
                self.refused(1, [("rain", 0, [(step, 1) for step in range(many)])])
                self.refused(0, [NAMES[1], ("rain", 0, [(step, 1) for step in range(many)])])

    def test_steps_that_are_no_list(self):
        for steps in (tuple(RAIN_STEPS), ((1, 1),), (), None, 0, True, "", "ab", {}, {1: 1}, {(1, 1)}, (1, 1),
                      iter(RAIN_STEPS)):
            with self.subTest(steps=steps):
                self.refused(1, [("rain", 0, steps)])
                self.refused(0, [("rain", 0, steps)])

    def test_a_step_in_another_form(self):
        for step in (None, 0, True, "ab", b"ab", (), [], {}, [1, 1], (1,), (1, 1, 1), {1: 1, 2: 2}, ((1, 1),),
                     [(1, 1)]):
            with self.subTest(step=step):
                self.refused(1, [("rain", 0, [step])])
                self.refused(0, [("rain", 0, [(3, 1), step])])

    def test_a_step_twice(self):
        self.refused(1, [("rain", 0, [(1, 1), (1, 1)])])
        self.refused(1, [("rain", 0, [(1, 1), (1, 2)])])
        self.refused(0, [("rain", 0, [(1, 1), (0, 1), (2, 2), (1, 3)])])
        self.refused(1, [NAMES[1], ("rain", 0, [(0, 1), (0, 2)])])

    def test_numbers_of_steps(self):
        for number in (10 ** 12, -10 ** 12, 10 ** 12 + 1, -10 ** 30):
            with self.subTest(number=number):
                self.refused(1, [("rain", 0, [(number, 1)])])
                self.refused(0, [("rain", 0, [(1, 1), (number, 1)])])

    def test_numbers_of_steps_that_are_no_whole_numbers(self):
        for number in NO_NUMBERS:
            with self.subTest(number=number):
                self.refused(1, [("rain", 0, [(number, 1)])])
                self.refused(1, [("rain", 0, [(5, 1), (number, 1)])])

    def test_weights(self):
        for weight in (0, -1, -999, 1000, 1001, 10 ** 12):
            with self.subTest(weight=weight):
                self.refused(1, [("rain", 0, [(1, weight)])])
                self.refused(0, [("rain", 0, [(2, 1), (1, weight)])])

    def test_weights_that_are_no_whole_numbers(self):
        for weight in NO_NUMBERS:
            with self.subTest(weight=weight):
                self.refused(1, [("rain", 0, [(1, weight)])])
                self.refused(1, [("rain", 0, [(5, 1), (1, weight)])])


class TestWhatIsHandedIn(Markets):
    def test_it_stays(self):
        names = copy.deepcopy(NAMES)
        market = Market(2, names)
        market.futures()
        market.is_future(market.futures()[0][0])
        self.assertEqual(names, NAMES)

    def test_it_may_be_changed_behind(self):
        names = copy.deepcopy(NAMES)
        market = Market(2, names)
        told = market.futures()
        self.assertEqual(told, byhand.futures(2, NAMES))
        contract = give(("plus", RAIN, ("read", "sun")))
        found = bounds(contract, market, "ann", "gold")
        names[0][2].append((9, 9))
        names[1][2][0] = (100, 100)
        names[2][2].clear()
        names.pop()
        self.assertEqual(market.futures(), told)
        self.assertTrue(market.is_future(told[-1][0]))
        self.assertEqual(bounds(contract, market, "ann", "gold"), found)

    def test_a_refusal_leaves_it_too(self):
        names = copy.deepcopy(NAMES) + [("wind", 0, [(1, 0)])]
        kept = copy.deepcopy(names)
        self.refused(2, names)
        self.assertEqual(names, kept)


class TestFutures(Markets):
    def test_written_out(self):
        market = Market(2, [("rain", 5, [(1, 2), (-1, 3)])])
        self.assertEqual(market.futures(), [
            ([{"rain": 5}, {"rain": 6}, {"rain": 7}], 4),
            ([{"rain": 5}, {"rain": 6}, {"rain": 5}], 6),
            ([{"rain": 5}, {"rain": 4}, {"rain": 5}], 6),
            ([{"rain": 5}, {"rain": 4}, {"rain": 3}], 9),
        ])

    def test_the_names_of_one_hour_come_in_their_order(self):
        for names in ([("rain", 0, [(1, 1), (0, 1)]), ("fog", 0, [(5, 1), (7, 3)])],
                      [("fog", 0, [(5, 1), (7, 3)]), ("rain", 0, [(1, 1), (0, 1)])]):
            market = Market(1, names)
            pairs = [(1, 5, 1), (1, 7, 3), (0, 5, 1), (0, 7, 3)]
            if names[0][0] == "fog":
                pairs = [(1, 5, 1), (0, 5, 1), (1, 7, 3), (0, 7, 3)]
            start = {"rain": 0, "fog": 0}
            told = [([start, {"rain": one, "fog": other}], weight) for one, other, weight in pairs]
            self.assertEqual(market.futures(), told)

    def test_an_earlier_hour_comes_ahead_of_an_earlier_name(self):
        market = Market(2, [("rain", 0, [(1, 1), (0, 1)]), ("fog", 0, [(5, 1), (7, 1)])])
        told = market.futures()
        self.assertEqual(told[3][0][1:], [{"rain": 1, "fog": 5}, {"rain": 1, "fog": 12}])
        self.assertEqual(told[4][0][1:], [{"rain": 1, "fog": 7}, {"rain": 2, "fog": 12}])
        self.assertEqual(len(told), 16)

    def test_steps_come_as_they_are_told_not_as_they_are_sorted(self):
        steps = [(3, 1), (-2, 5), (1, 2), (0, 4)]
        told = Market(1, [("rain", 0, steps)]).futures()
        self.assertEqual([(rows[1]["rain"], weight) for rows, weight in told], steps)

    def test_one_hour_alone(self):
        self.assertEqual(Market(0, NAMES).futures(), [([{"rain": 0, "sun": 10, "fog": -3}], 1)])
        self.assertEqual(Market(0, [("rain", 4, [(1, 7)])]).futures(), [([{"rain": 4}], 1)])

    def test_no_names(self):
        for last in (0, 1, 12):
            with self.subTest(last=last):
                self.assertEqual(Market(last, []).futures(), [([{}] * (last + 1), 1)])

    def test_weights(self):
        self.assertEqual(Market(12, [("fog", 0, [(1, 999)])]).futures()[0][1], 999 ** 12)
        self.assertEqual([weight for _, weight in Market(2, NAMES[:1]).futures()], [4, 6, 2, 6, 9, 3, 2, 3, 1])
        names = [("rain", 0, [(0, 2), (1, 3)]), ("sun", 0, [(0, 5)]), ("fog", 0, [(0, 7), (1, 11)])]
        self.assertEqual([weight for _, weight in Market(1, names).futures()], [70, 110, 105, 165])

    def test_drawn_markets(self):
        for seed, draw in draws(0, 150):
            last, names = drawn_market(draw)
            with self.subTest(seed=seed):
                told = Market(last, names).futures()
                self.assertEqual(told, byhand.futures(last, names))
                self.assertTrue(all(type(pair) is tuple and type(pair[0]) is list for pair in told))
                self.assertTrue(all(list(row) == [name for name, _, _ in names] for rows, _ in told for row in rows))

    def test_two_thousand_and_fewer_are_told(self):
        two, three = [(1, 1), (2, 1)], [(1, 1), (2, 1), (3, 1)]
        four = [(1, 1), (2, 1), (3, 1), (4, 1)]
        for last, names, many in ((10, [("rain", 0, two)], 1024), (6, [("rain", 0, three)], 729),
                                  (5, [("rain", 0, four)], 1024), (3, [("a", 0, four), ("b", 0, three)], 1728),
                                  (2, [("a", 0, four), ("b", 0, three), ("c", 0, three)], 1296),
                                  (12, [("rain", 0, [(1, 1)])], 1)):
            with self.subTest(last=last, many=many):
                told = Market(last, names).futures()
                self.assertEqual(len(told), many)
                self.assertEqual(len({str(rows) for rows, _ in told}), many)

    def test_more_are_refused(self):
        two, three = [(1, 1), (2, 1)], [(1, 1), (2, 1), (3, 1)]
        four = [(1, 1), (2, 1), (3, 1), (4, 1)]
        for last, names in ((11, [("rain", 0, two)]), (12, [("rain", 0, two)]), (7, [("rain", 0, three)]),
                            (6, [("rain", 0, four)]), (2, [("a", 0, four), ("b", 0, four), ("c", 0, three)]),
                            (12, [("a", 0, four), ("b", 0, four), ("c", 0, four)])):
            market = Market(last, names)
            for _ in range(2):
                with self.subTest(last=last, names=names), self.assertRaises(TooMany) as caught:
                    market.futures()
            self.assertIsInstance(caught.exception, BookError)
            self.assertNotIsInstance(caught.exception, BadMarket)

    def test_told_again_when_the_first_answer_is_spoilt(self):
        market = Market(2, NAMES)
        told = byhand.futures(2, NAMES)
        first = market.futures()
        for rows, _ in first:
            for row in rows:
                row["rain"] = 99
                row["wind"] = 1
            rows.reverse()
            rows.append({})
        first.clear()
        self.assertEqual(market.futures(), told)
        self.assertTrue(market.is_future(told[0][0]))

    def test_no_two_lists_or_dicts_of_an_answer_are_one(self):
        for last, names in ((2, NAMES), (0, NAMES), (3, []), (4, NAMES[2:])):
            told = Market(last, names).futures()
            parts = [rows for rows, _ in told] + [row for rows, _ in told for row in rows]
            self.assertEqual(len({id(part) for part in parts}), len(parts))


class TestIsFuture(Markets):
    def test_each_future_is_one(self):
        for last, names in ((2, NAMES), (0, NAMES), (3, []), (3, NAMES[:1]), (2, NAMES[1:])):
            market = Market(last, names)
            for rows, _ in market.futures():
                self.assertIs(market.is_future(rows), True)

    def test_of_a_market_with_more_futures_than_are_told(self):
        market = Market(12, [("rain", 0, RAIN_STEPS), ("sun", 10, SUN_STEPS)])
        rows = [{"rain": hour, "sun": 10 + 5 * (hour % 2)} for hour in range(13)]
        self.assertIs(market.is_future(rows), True)
        rows[12]["sun"] = 20
        self.assertIs(market.is_future(rows), True)
        rows[12]["sun"] = 15
        self.assertIs(market.is_future(rows), False)

    def test_a_number_changed(self):
        names = [("rain", 0, [(1, 2), (0, 3)]), ("sun", 10, [(50, 1), (-50, 4)])]
        market = Market(3, names)
        told = [rows for rows, _ in byhand.futures(3, names)]
        for rows in told[::7]:
            for hour in range(4):
                for name in ("rain", "sun"):
                    for number in (-51, -50, -1, 0, 1, 2, 3, 10, 50, 60, 110, 160):
                        other = copy.deepcopy(rows)
                        other[hour][name] = number
                        self.assertIs(market.is_future(other), other in told)

    def test_the_first_number_changed(self):
        market = Market(1, [("rain", 5, [(1, 1), (2, 1)])])
        self.assertIs(market.is_future([{"rain": 5}, {"rain": 7}]), True)
        self.assertIs(market.is_future([{"rain": 6}, {"rain": 7}]), False)
        self.assertIs(Market(0, [("rain", 5, [(1, 1)])]).is_future([{"rain": 6}]), False)

    def test_a_step_of_another_name(self):
        market = Market(1, [("rain", 0, [(1, 1)]), ("sun", 0, [(2, 1)])])
        self.assertIs(market.is_future([{"rain": 0, "sun": 0}, {"rain": 1, "sun": 2}]), True)
        self.assertIs(market.is_future([{"rain": 0, "sun": 0}, {"rain": 2, "sun": 1}]), False)
        self.assertIs(market.is_future([{"rain": 0, "sun": 0}, {"rain": 2, "sun": 2}]), False)
        self.assertIs(market.is_future([{"rain": 0, "sun": 0}, {"rain": 1, "sun": 1}]), False)

    def test_a_row_more_or_less(self):
        for last, names in ((2, NAMES), (2, []), (0, NAMES), (2, NAMES[2:])):
            market = Market(last, names)
            rows = market.futures()[0][0]
            longer = [dict(row) for row in rows] + [{name: rows[-1][name] + steps[0][0] for name, _, steps in names}]
            self.assertIs(market.is_future(rows), True)
            self.assertIs(market.is_future(longer), False)
            self.assertIs(market.is_future(rows[:-1]), False)
            self.assertIs(market.is_future(longer[1:]), not names)
            self.assertIs(market.is_future([]), False)

    def test_a_name_more_or_less(self):
        market = Market(2, NAMES)
        for hour in range(3):
            rows = market.futures()[5][0]
            rows[hour]["wind"] = 0
            self.assertIs(market.is_future(rows), False)
            del rows[hour]["wind"]
            self.assertIs(market.is_future(rows), True)
            for name in ("rain", "sun", "fog"):
                less = copy.deepcopy(rows)
                number = less[hour].pop(name)
                self.assertIs(market.is_future(less), False)
                less[hour]["wind"] = number
                self.assertIs(market.is_future(less), False)
        self.assertIs(Market(1, []).is_future([{}, {"rain": 0}]), False)
        self.assertIs(Market(1, []).is_future([{"rain": 0}, {}]), False)

    def test_the_names_in_another_order(self):
        market = Market(2, NAMES)
        for rows, _ in market.futures():
            turned = [dict(reversed(list(row.items()))) for row in rows]
            self.assertIs(market.is_future(turned), True)
            self.assertIs(market.is_future([turned[0], rows[1], turned[2]]), True)

    def test_the_rows_stay(self):
        market = Market(2, NAMES)
        rows = market.futures()[3][0]
        kept = copy.deepcopy(rows)
        market.is_future(rows)
        self.assertEqual([list(row.items()) for row in rows], [list(row.items()) for row in kept])

    def test_asked_again_of_rows_that_were_changed_meanwhile(self):
        market = Market(1, [("rain", 0, [(1, 1)])])
        rows = [{"rain": 0}, {"rain": 1}]
        self.assertIs(market.is_future(rows), True)
        rows[1]["rain"] = 2
        self.assertIs(market.is_future(rows), False)
        rows[1]["rain"] = 1
        self.assertIs(market.is_future(rows), True)


class TestInterface(unittest.TestCase):
    def test_the_arguments_have_their_names(self):
        market = Market(last=1, names=[("rain", 0, [(1, 1)])])
        self.assertIs(market.is_future(rows=[{"rain": 0}, {"rain": 1}]), True)

    def test_all_is_defined_in_its_file(self):
        self.assertEqual(markets.Market.__module__, "contractbook.markets")
        for name in ("__init__", "futures", "is_future"):
            self.assertIn(name, vars(Market))


if __name__ == "__main__":
    unittest.main()
