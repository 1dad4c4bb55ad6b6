"""What contracts owe in rows, and what is left of them when they are cut."""

import copy
import unittest

import byhand
from contractbook import going
from contractbook.bounds import apart, bounds, stock, worth
from contractbook.contracts import need_contract, size_of
from contractbook.going import cut, owed
from contractbook.markets import Market
from samples import NONE, PLACES, RAIN, WORDS, above, draws, drawn_contract, drawn_market, give, num, rain, together

GIVE = give(1)


def gold(*told):
    """What ann owes bob, by pairs of an hour and how many."""
    return [(hour, "ann", "bob", "gold", many) for hour, many in told]


ALL_ROWS = (
    rain(), rain(1), rain(0), rain(3, 1), rain(0, 1, 2, 3, 0, 1), rain(3, 2, 1, 0, -1, -2), rain(-1, 5, -1, 5, -1),
    rain(2, 2, 2, 2, 2, 2, 2), rain(0, 0, 0, 0, 3, 0, 0), rain(1, 0, 2, 0, 0, 0, 0, 0),
)


def shifted(told, hours):
    return [(hour + hours, *rest) for hour, *rest in told]


class Going(unittest.TestCase):
    def owes(self, contract, rows, told):
        need_contract(contract)
        found = owed(contract, rows)
        self.assertEqual(found, told)
        self.assertEqual(byhand.owed(contract, rows), told)
        self.assertIs(type(found), list)
        for one in found:
            self.assertIs(type(one), tuple)
            self.assertEqual([type(part) for part in one], [int, str, str, str, int])


class TestGive(Going):
    def test_above_nought(self):
        self.owes(give(3), rain(0), [(0, "ann", "bob", "gold", 3)])
        self.owes(give(3, "bob", "ann"), rain(0), [(0, "bob", "ann", "gold", 3)])
        self.owes(give(1), rain(0), [(0, "ann", "bob", "gold", 1)])

    def test_nought(self):
        self.owes(give(0), rain(0), [])
        self.owes(give(RAIN), rain(0), [])
        self.owes(give(("minus", RAIN, RAIN)), rain(5), [])
        self.owes(give(("times", RAIN, num(0))), rain(5), [])

    def test_below_nought(self):
        self.owes(give(-3), rain(0), [(0, "bob", "ann", "gold", 3)])
        self.owes(give(-3, "bob", "ann"), rain(0), [(0, "ann", "bob", "gold", 3)])
        self.owes(give(-1), rain(0), [(0, "bob", "ann", "gold", 1)])

    def test_of_what_is_read(self):
        for number in (-5, -1, 0, 1, 5, 10 ** 30, -10 ** 30):
            for one, other in (("ann", "bob"), ("bob", "ann")):
                with self.subTest(number=number, one=one):
                    told = [(0, one, other, "gold", number)] if number > 0 else []
                    told = [(0, other, one, "gold", -number)] if number < 0 else told
                    self.owes(give(RAIN, one, other), rain(number), told)

    def test_of_each_number(self):
        row = [{"a": 5, "b": -3}]
        a, b = ("read", "a"), ("read", "b")
        for number, many in ((("plus", a, b), 2), (("minus", a, b), 8), (("most", a, b), 5), (("least", b, b), -3),
                             (("times", a, b), -15), (("times", num(3), a), 15), (("times", b, num(-2)), 6),
                             (("times", num(2), num(3)), 6), (("minus", num(2), ("plus", a, num(4))), -7),
                             (("minus", a, ("minus", b, ("times", num(2), ("minus", a, num(1))))), 16),
                             (("times", ("plus", a, num(1)), ("minus", b, num(1))), -24),
                             (("plus", ("most", a, b), ("least", a, b)), 2)):
            with self.subTest(number=number):
                one, other = ("ann", "bob") if many > 0 else ("bob", "ann")
                self.owes(give(number), row, [(0, one, other, "gold", abs(many))])

    def test_in_the_first_hour_alone(self):
        self.owes(give(RAIN), rain(4, 5, 6), [(0, "ann", "bob", "gold", 4)])


class TestEachWord(Going):
    def test_none(self):
        self.owes(NONE, rain(1, 2, 3), [])
        self.owes(NONE, [{}, {}], [])

    def test_both(self):
        self.owes(("both", give(2), give(RAIN, "ann", "carl")), rain(5, 6),
                  [(0, "ann", "bob", "gold", 2), (0, "ann", "carl", "gold", 5)])

    def test_turned(self):
        self.owes(("turned", "ann", "bob", give(2)), rain(0), [(0, "bob", "ann", "gold", 2)])
        self.owes(("turned", "bob", "ann", give(2)), rain(0), [(0, "bob", "ann", "gold", 2)])
        self.owes(("turned", "bob", "carl", give(2)), rain(0), [(0, "ann", "carl", "gold", 2)])
        self.owes(("turned", "carl", "ann", give(2)), rain(0), [(0, "carl", "bob", "gold", 2)])
        self.owes(("turned", "carl", "dora", give(2)), rain(0), [(0, "ann", "bob", "gold", 2)])

    def test_turned_leaves_goods_and_names(self):
        contract = ("turned", "gold", "rain", give(RAIN))
        self.owes(contract, rain(2), [(0, "ann", "bob", "gold", 2)])
        contract = ("turned", "gold", "rain", give(RAIN, "gold", "rain"))
        self.owes(contract, [{"rain": 2, "gold": 3}], [(0, "rain", "gold", "gold", 2)])

    def test_turned_turns_all_of_what_stands_within(self):
        inner = ("both", ("later", 1, give(2)), ("when", above(4), ("if", above(5), NONE, give(3, "bob", "carl"))))
        self.owes(("turned", "ann", "bob", inner), rain(0, 1, 5),
                  [(1, "bob", "ann", "gold", 2), (2, "ann", "carl", "gold", 3)])

    def test_turned_within_turned(self):
        pairs = [("ann", "bob"), ("bob", "ann"), ("ann", "carl"), ("bob", "carl"), ("carl", "dora")]
        ways = {
            (("ann", "bob"), ("ann", "bob")): ("ann", "bob"),
            (("ann", "bob"), ("bob", "ann")): ("ann", "bob"),
            (("ann", "carl"), ("ann", "bob")): ("bob", "carl"),
            (("ann", "bob"), ("ann", "carl")): ("carl", "ann"),
            (("bob", "carl"), ("ann", "carl")): ("bob", "carl"),
            (("carl", "dora"), ("bob", "carl")): ("ann", "dora"),
        }
        for (outer, inner), (one, other) in ways.items():
            with self.subTest(outer=outer, inner=inner):
                contract = ("turned", *outer, ("turned", *inner, give(2)))
                self.owes(contract, rain(0), [(0, one, other, "gold", 2)])
        for first in pairs:
            for second in pairs:
                for third in pairs:
                    with self.subTest(first=first, second=second, third=third):
                        contract = ("turned", *first, ("turned", *second, ("turned", *third, give(2))))
                        self.owes(contract, rain(0), byhand.owed(contract, rain(0)))

    def test_turned_within_turned_beside_others(self):
        contract = ("turned", "ann", "bob", ("both", give(1, "ann", "carl"), ("turned", "ann", "carl", give(2))))
        self.owes(contract, rain(0), [(0, "bob", "carl", "gold", 1), (0, "carl", "ann", "gold", 2)])

    def test_later(self):
        for hours in range(5):
            told = [(hours, "ann", "bob", "gold", 10 + hours)] if hours < 3 else []
            with self.subTest(hours=hours):
                self.owes(("later", hours, give(RAIN)), rain(10, 11, 12), told)

    def test_later_beyond_the_last_row(self):
        for hours in (1, 2, 50, 99):
            with self.subTest(hours=hours):
                self.owes(("later", hours, GIVE), rain(5), [])
        self.owes(("later", 99, GIVE), rain(*range(100)), [(99, "ann", "bob", "gold", 1)])
        self.owes(("later", 99, GIVE), rain(*range(99)), [])
        self.owes(("later", 99, ("later", 99, GIVE)), rain(*range(199)), [(198, "ann", "bob", "gold", 1)])

    def test_later_within_later(self):
        self.owes(("later", 1, ("later", 2, give(RAIN))), rain(1, 2, 3, 4, 5), [(3, "ann", "bob", "gold", 4)])
        self.owes(("later", 0, ("later", 2, give(RAIN))), rain(1, 2, 3), [(2, "ann", "bob", "gold", 3)])
        self.owes(("later", 2, ("later", 0, give(RAIN))), rain(1, 2, 3), [(2, "ann", "bob", "gold", 3)])

    def test_often(self):
        self.owes(("often", 1, 1, give(RAIN)), rain(1, 2, 3), [(0, "ann", "bob", "gold", 1)])
        self.owes(("often", 1, 99, give(RAIN)), rain(1, 2, 3), [(0, "ann", "bob", "gold", 1)])
        self.owes(("often", 2, 1, give(RAIN)), rain(1, 2, 3), gold((0, 1), (1, 2)))
        self.owes(("often", 3, 2, give(RAIN)), rain(*range(1, 9)),
                  [(0, "ann", "bob", "gold", 1), (2, "ann", "bob", "gold", 3), (4, "ann", "bob", "gold", 5)])
        self.owes(("often", 9, 1, GIVE), rain(*range(20)), [(hour, "ann", "bob", "gold", 1) for hour in range(9)])
        self.owes(("often", 2, 99, GIVE), rain(*range(100)), gold((0, 1), (99, 1)))

    def test_often_beyond_the_last_row(self):
        self.owes(("often", 9, 2, give(RAIN)), rain(1, 2, 3, 4), gold((0, 1), (2, 3)))
        self.owes(("often", 9, 99, give(RAIN)), rain(1, 2), [(0, "ann", "bob", "gold", 1)])

    def test_often_within_often(self):
        contract = ("often", 2, 1, ("often", 3, 1, GIVE))
        self.owes(contract, rain(0, 0, 0, 0, 0),
                  [(hour, "ann", "bob", "gold", many) for hour, many in enumerate((1, 2, 2, 1))])
        contract = ("often", 2, 3, ("often", 3, 2, GIVE))
        self.owes(contract, rain(*[0] * 9),
                  [(hour, "ann", "bob", "gold", 1) for hour in (0, 2, 3, 4, 5, 7)])

    def test_often_begins_each_time_anew(self):
        contract = ("often", 3, 1, ("if", above(2), give(RAIN), ("later", 1, give(9))))
        self.owes(contract, rain(1, 3, 5, 0), [(1, "ann", "bob", "gold", 12), (2, "ann", "bob", "gold", 5)])

    def test_many_oftens_within_one_another(self):
        contract = GIVE
        for _ in range(10):
            contract = ("often", 9, 1, contract)
        counts = [1]
        for _ in range(10):
            counts = [sum(counts[max(0, hour - 8):hour + 1]) for hour in range(len(counts) + 8)]
        told = [(hour, "ann", "bob", "gold", many) for hour, many in enumerate(counts)]
        self.assertEqual(owed(contract, rain(*[0] * 100)), told)
        for hours in (1, 40, 80):
            ahead, rest = cut(contract, rain(*[0] * hours))
            self.assertEqual(ahead + shifted(owed(rest, rain(*[0] * 60)), hours), told[:hours + 60])

    def test_if(self):
        contract = ("if", above(2), give(RAIN), give(7, "bob", "carl"))
        self.owes(contract, rain(3, 0), [(0, "ann", "bob", "gold", 3)])
        self.owes(contract, rain(2, 9), [(0, "bob", "carl", "gold", 7)])

    def test_if_goes_by_what_is_read_at_the_hour_at_which_it_begins(self):
        contract = ("later", 2, ("if", above(2), give(RAIN), give(7, "bob", "carl")))
        self.owes(contract, rain(9, 9, 2, 9), [(2, "bob", "carl", "gold", 7)])
        self.owes(contract, rain(0, 0, 4, 0), [(2, "ann", "bob", "gold", 4)])
        contract = ("if", above(2), ("later", 1, give(RAIN)), ("later", 2, give(RAIN, "bob", "carl")))
        self.owes(contract, rain(3, 1, 8), [(1, "ann", "bob", "gold", 1)])
        self.owes(contract, rain(1, 3, 8), [(2, "bob", "carl", "gold", 8)])
        contract = ("when", above(4), ("if", above(5), give(1), give(2)))
        self.owes(contract, rain(0, 5, 6), [(1, "ann", "bob", "gold", 2)])
        self.owes(contract, rain(0, 6, 5), [(1, "ann", "bob", "gold", 1)])

    def test_when(self):
        contract = ("when", above(2), give(RAIN))
        self.owes(contract, rain(3, 4, 5), [(0, "ann", "bob", "gold", 3)])
        self.owes(contract, rain(2, 2, 5, 6), [(2, "ann", "bob", "gold", 5)])
        self.owes(contract, rain(0, 1, 2), [])
        self.owes(contract, rain(0, 1, 3), [(2, "ann", "bob", "gold", 3)])

    def test_when_begins_but_once(self):
        contract = ("when", above(2), ("often", 2, 2, give(RAIN)))
        self.owes(contract, rain(3, 3, 0, 3, 3), [(0, "ann", "bob", "gold", 3)])
        self.owes(contract, rain(0, 3, 9, 4, 9, 9), [(1, "ann", "bob", "gold", 3), (3, "ann", "bob", "gold", 4)])

    def test_when_looks_no_earlier_than_it_begins(self):
        self.owes(("later", 2, ("when", above(2), give(RAIN))), rain(9, 9, 0, 4), [(3, "ann", "bob", "gold", 4)])
        self.owes(("when", above(2), ("when", ("not", above(2)), give(RAIN))), rain(0, 3, 3, 1),
                  [(3, "ann", "bob", "gold", 1)])
        self.owes(("when", above(2), ("when", above(2), give(RAIN))), rain(0, 3, 4), [(1, "ann", "bob", "gold", 3)])

    def test_until(self):
        contract = ("until", above(2), ("often", 4, 1, give(5)))
        five = [(hour, "ann", "bob", "gold", 5) for hour in range(4)]
        self.owes(contract, rain(3, 0, 0, 0), [])
        self.owes(contract, rain(0, 3, 0, 0), five[:1])
        self.owes(contract, rain(0, 0, 0, 3), five[:3])
        self.owes(contract, rain(0, 1, 2, 2, 9), five)

    def test_until_ends_what_began_before_and_what_would_begin(self):
        inner = ("both", ("later", 3, give(1)), ("when", above(4), give(2)))
        self.owes(("until", above(2), inner), rain(0, 3, 5, 0, 5), [])
        self.owes(("until", above(5), inner), rain(0, 3, 5, 0), gold((2, 2), (3, 1)))
        self.owes(("until", above(4), inner), rain(0, 3, 5, 0), [])

    def test_until_looks_no_earlier_than_it_begins(self):
        contract = ("later", 1, ("until", above(2), ("often", 3, 1, give(5))))
        self.owes(contract, rain(9, 0, 0, 9), [(1, "ann", "bob", "gold", 5), (2, "ann", "bob", "gold", 5)])
        contract = ("when", above(2), ("until", ("not", above(2)), ("often", 9, 1, give(RAIN))))
        self.owes(contract, rain(0, 3, 4, 0, 5), [(1, "ann", "bob", "gold", 3), (2, "ann", "bob", "gold", 4)])

    def test_until_ends_what_stands_within_alone(self):
        contract = ("both", ("until", above(2), ("often", 9, 1, give(1))), ("often", 3, 1, give(2, "bob", "carl")))
        self.owes(contract, rain(0, 3, 0), [
            (0, "ann", "bob", "gold", 1), (0, "bob", "carl", "gold", 2), (1, "bob", "carl", "gold", 2),
            (2, "bob", "carl", "gold", 2)])

    def test_until_of_each_time_for_itself(self):
        contract = ("often", 3, 2, ("until", above(2), ("often", 2, 1, give(1))))
        self.owes(contract, rain(0, 3, 0, 0, 3, 0), [
            (0, "ann", "bob", "gold", 1), (2, "ann", "bob", "gold", 1), (3, "ann", "bob", "gold", 1)])

    def test_until_within_until(self):
        for first, second in ((above(2), ("below", RAIN, num(0))), (above(2), above(2)), (above(2), above(4))):
            contract = ("until", first, ("until", second, ("often", 9, 1, give(1))))
            for rows in ALL_ROWS:
                with self.subTest(first=first, second=second, rows=rows):
                    self.owes(contract, rows, byhand.owed(contract, rows))
                    self.owes(("until", second, ("until", first, contract[2][2])), rows, byhand.owed(contract, rows))
        contract = ("until", above(2), ("both", GIVE, ("until", above(2), GIVE)))
        self.owes(contract, rain(0), [(0, "ann", "bob", "gold", 2)])
        self.owes(contract, rain(3), [])


class TestWordsWithinOneAnother(Going):
    def test_each_word_within_each_word(self):
        for where, hold in PLACES.items():
            for word, inner in WORDS.items():
                for rows in ALL_ROWS:
                    with self.subTest(where=where, word=word, rows=rows):
                        self.owes(hold(inner), rows, byhand.owed(hold(inner), rows))

    def test_three_words_within_one_another(self):
        for first, outer in PLACES.items():
            for second, hold in PLACES.items():
                for word, inner in WORDS.items():
                    contract = outer(hold(inner))
                    for rows in (rain(0, 3, 1, 2, -1, 0, 4, 0), rain(2, 2, 0, 3, 0, 0, 0, 1)):
                        with self.subTest(first=first, second=second, word=word):
                            self.owes(contract, rows, byhand.owed(contract, rows))

    def test_drawn_contracts(self):
        for seed, draw in draws(0, 400):
            last, names = drawn_market(draw)
            contract = drawn_contract(draw, [name for name, _, _ in names], draw.randint(1, 6))
            rows, _ = draw.choice(byhand.futures(last, names))
            with self.subTest(seed=seed):
                self.owes(contract, rows, byhand.owed(contract, rows))

    def test_contracts_a_little_beyond_the_limits(self):
        self.assertEqual(owed(("often", 10, 1, GIVE), rain(*[0] * 12)), gold(*[(hour, 1) for hour in range(10)]))
        self.assertEqual(owed(("later", 100, GIVE), rain(*[0] * 101)), [(100, "ann", "bob", "gold", 1)])
        self.assertEqual(owed(("often", 2, 100, GIVE), rain(*[0] * 101)),
                         [(0, "ann", "bob", "gold", 1), (100, "ann", "bob", "gold", 1)])
        self.assertEqual(owed(give(10 ** 12), rain(0)), [(0, "ann", "bob", "gold", 10 ** 12)])
        self.assertEqual(owed(("often", 0, 1, GIVE), rain(0, 0)), [])
        self.assertEqual(owed(("often", 3, 0, GIVE), rain(0, 0)), [(0, "ann", "bob", "gold", 3)])
        deep = GIVE
        for _ in range(20):
            deep = ("both", ("until", above(9), deep), NONE)
        self.assertEqual(owed(deep, rain(0)), [(0, "ann", "bob", "gold", 1)])


class TestSetOff(Going):
    def test_the_same_way_round(self):
        self.owes(("both", give(2), give(3)), rain(0), [(0, "ann", "bob", "gold", 5)])
        self.owes(("both", give(2, "bob", "ann"), give(3, "bob", "ann")), rain(0), [(0, "bob", "ann", "gold", 5)])

    def test_either_way_round(self):
        self.owes(("both", give(2), give(3, "bob", "ann")), rain(0), [(0, "bob", "ann", "gold", 1)])
        self.owes(("both", give(3), give(2, "bob", "ann")), rain(0), [(0, "ann", "bob", "gold", 1)])
        self.owes(("both", give(-3), give(2, "bob", "ann")), rain(0), [(0, "bob", "ann", "gold", 5)])

    def test_to_nothing(self):
        self.owes(("both", give(3), give(3, "bob", "ann")), rain(0), [])
        self.owes(("both", give(3), give(-3)), rain(0), [])
        self.owes(("both", give(RAIN), ("turned", "ann", "bob", give(RAIN))), rain(4), [])
        self.owes(("both", give(("times", RAIN, RAIN)), give(16, "bob", "ann")), rain(4), [])

    def test_of_what_began_at_unlike_hours(self):
        contract = ("both", ("later", 2, give(5)), ("often", 3, 1, give(2, "bob", "ann")))
        self.owes(contract, rain(0, 0, 0, 0), [
            (0, "bob", "ann", "gold", 2), (1, "bob", "ann", "gold", 2), (2, "ann", "bob", "gold", 3)])

    def test_not_of_unlike_hours(self):
        self.owes(("both", give(3), ("later", 1, give(3, "bob", "ann"))), rain(0, 0), [
            (0, "ann", "bob", "gold", 3), (1, "bob", "ann", "gold", 3)])

    def test_not_of_unlike_goods(self):
        self.owes(("both", give(3), give(3, "bob", "ann", "silver")), rain(0), [
            (0, "ann", "bob", "gold", 3), (0, "bob", "ann", "silver", 3)])

    def test_not_of_unlike_sides(self):
        contract = ("both", give(3), ("both", give(3, "bob", "carl"), give(3, "carl", "ann")))
        self.owes(contract, rain(0), [
            (0, "ann", "bob", "gold", 3), (0, "bob", "carl", "gold", 3), (0, "carl", "ann", "gold", 3)])


class TestTheList(Going):
    def test_the_order(self):
        parts = [
            ("later", 1, give(1, "ann", "bob")), give(1, "carl", "ann"), give(1, "bob", "carl", "tin"),
            give(1, "bob", "carl", "gold"), give(2, "bob", "ann"), give(9, "ann", "carl", "silver"),
            give(1, "ann", "carl", "tin"), ("later", 2, give(1, "aa", "b")), ("later", 1, give(3, "a", "z")),
            give(5, "an", "bob"),
        ]
        told = [
            (0, "an", "bob", "gold", 5), (0, "ann", "carl", "silver", 9), (0, "ann", "carl", "tin", 1),
            (0, "bob", "ann", "gold", 2), (0, "bob", "carl", "gold", 1), (0, "bob", "carl", "tin", 1),
            (0, "carl", "ann", "gold", 1), (1, "a", "z", "gold", 3), (1, "ann", "bob", "gold", 1),
            (2, "aa", "b", "gold", 1),
        ]
        for order in (parts, parts[::-1], parts[4:] + parts[:4]):
            self.owes(together(order), rain(0, 0, 0), told)

    def test_many_hours_rise_as_numbers(self):
        found = owed(("often", 9, 2, GIVE), rain(*[0] * 20))
        self.assertEqual([told[0] for told in found], list(range(0, 18, 2)))

    def test_no_rows(self):
        for word, contract in WORDS.items():
            with self.subTest(word=word):
                self.owes(contract, [], [])

    def test_no_names(self):
        self.owes(("often", 2, 1, give(3)), [{}, {}], [(0, "ann", "bob", "gold", 3), (1, "ann", "bob", "gold", 3)])

    def test_names_that_are_not_read_do_not_matter(self):
        rows = [{"rain": 3, "sun": 5}, {"sun": 1, "rain": 2}]
        self.owes(("often", 2, 1, give(RAIN)), rows, [(0, "ann", "bob", "gold", 3), (1, "ann", "bob", "gold", 2)])

    def test_rows_and_contract_stay(self):
        for hold in PLACES.values():
            for inner in WORDS.values():
                contract, rows = hold(inner), rain(0, 1, 2, 3, 0)
                told, kept = copy.deepcopy(contract), copy.deepcopy(rows)
                owed(contract, rows)
                cut(contract, rows)
                self.assertEqual((contract, rows), (told, kept))

    def test_asked_again_when_the_list_is_spoilt(self):
        contract, rows = WORDS["often"], rain(1, 2, 3)
        first = owed(contract, rows)
        kept = list(first)
        self.assertTrue(kept)
        first.append("spoilt")
        first[0] = None
        self.assertEqual(owed(contract, rows), kept)
        self.assertIsNot(owed(contract, rows), owed(contract, rows))
        self.assertIsNot(owed(NONE, rows), owed(NONE, rows))

    def test_asked_again_of_rows_that_were_changed_meanwhile(self):
        rows = rain(1, 2)
        self.owes(give(RAIN), rows, [(0, "ann", "bob", "gold", 1)])
        rows[0]["rain"] = 7
        self.owes(give(RAIN), rows, [(0, "ann", "bob", "gold", 7)])


class TestCut(Going):
    def cut_anywhere(self, contract, rows):
        """Cut at each hour, and the rest once more at each later one."""
        told = byhand.owed(contract, rows)
        for hour in range(len(rows) + 1):
            found = cut(contract, rows[:hour])
            self.assertIs(type(found), tuple)
            ahead, rest = found
            self.assertIs(type(ahead), list)
            self.assertEqual(ahead, [one for one in told if one[0] < hour])
            self.assertEqual(ahead + shifted(owed(rest, rows[hour:]), hour), told)
            for later in range(hour, len(rows) + 1):
                between, last = cut(rest, rows[hour:later])
                self.assertEqual(ahead + shifted(between, hour) + shifted(owed(last, rows[later:]), later), told)

    def test_each_word_at_each_hour(self):
        for word, contract in WORDS.items():
            for rows in ALL_ROWS:
                with self.subTest(word=word, rows=rows):
                    self.cut_anywhere(contract, rows)

    def test_each_word_within_each_word_at_each_hour(self):
        for where, hold in PLACES.items():
            for word, inner in WORDS.items():
                with self.subTest(where=where, word=word):
                    self.cut_anywhere(hold(inner), rain(0, 3, 1, 2, -1))
                    self.cut_anywhere(hold(inner), rain(1, 0, 2, 0, 3, 1))

    def test_drawn_contracts(self):
        for seed, draw in draws(1000, 150):
            last, names = drawn_market(draw)
            contract = drawn_contract(draw, [name for name, _, _ in names], draw.randint(1, 5))
            rows, _ = draw.choice(byhand.futures(last, names))
            with self.subTest(seed=seed):
                self.cut_anywhere(contract, rows)

    def test_written_out(self):
        ahead, rest = cut(("often", 3, 2, give(RAIN)), rain(5, 6, 7))
        self.assertEqual(ahead, [(0, "ann", "bob", "gold", 5), (2, "ann", "bob", "gold", 7)])
        self.assertEqual(owed(rest, rain(1, 2, 3)), [(1, "ann", "bob", "gold", 2)])
        ahead, rest = cut(("until", above(2), ("often", 9, 1, give(1))), rain(0, 0))
        self.assertEqual(ahead, [(0, "ann", "bob", "gold", 1), (1, "ann", "bob", "gold", 1)])
        self.assertEqual(owed(rest, rain(3, 0)), [])
        self.assertEqual(owed(rest, rain(0, 3, 0)), [(0, "ann", "bob", "gold", 1)])
        ahead, rest = cut(("until", above(2), ("often", 9, 1, give(1))), rain(0, 3))
        self.assertEqual(owed(rest, rain(0, 0)), [])

    def test_the_rest_owes_it_in_whatever_rows_follow(self):
        contract = ("when", above(2), ("if", above(4), give(RAIN), ("later", 1, give(RAIN, "bob", "carl"))))
        ahead, rest = cut(contract, rain(1, 2))
        self.assertEqual(ahead, [])
        self.assertEqual(owed(rest, rain(5)), [(0, "ann", "bob", "gold", 5)])
        self.assertEqual(owed(rest, rain(3, 9)), [(1, "bob", "carl", "gold", 9)])
        self.assertEqual(owed(rest, rain(0, 0, 0, 6)), [(3, "ann", "bob", "gold", 6)])
        self.assertEqual(owed(rest, rain(0)), [])

    def test_with_no_rows(self):
        for word, contract in WORDS.items():
            ahead, rest = cut(contract, [])
            self.assertEqual(ahead, [])
            for rows in ALL_ROWS:
                with self.subTest(word=word, rows=rows):
                    self.assertEqual(owed(rest, rows), owed(contract, rows))
        _, rest = cut(cut(WORDS["often"], [])[1], [])
        self.assertEqual(owed(rest, rain(1, 2, 3)), owed(WORDS["often"], rain(1, 2, 3)))

    def test_nothing_is_left_of_what_is_over(self):
        for contract in (NONE, give(5), ("often", 3, 1, give(5)), ("until", above(2), ("often", 9, 1, give(5)))):
            with self.subTest(contract=contract):
                _, rest = cut(contract, rain(0, 0, 0, 3))
                self.assertEqual(owed(rest, rain(0, 1, 2, 3, 4, 5, 6, 7, 8, 9)), [])

    def test_cut_hour_by_hour(self):
        drawn = [drawn_contract(draw, ["rain"], 5) for _, draw in draws(2000, 60)]
        rows = rain(0, 1, -1, 2, 0, 3, 1, 1, -2, 4, 0, 0, 2, 5, -1, 0)
        for contract in drawn + [hold(inner) for hold in PLACES.values() for inner in WORDS.values()]:
            with self.subTest(contract=contract):
                told, rest = [], contract
                for hour, row in enumerate(rows):
                    ahead, rest = cut(rest, [row])
                    told.extend(shifted(ahead, hour))
                self.assertEqual(told, byhand.owed(contract, rows))

    def test_a_rest_that_is_cut_again_does_not_grow_without_end(self):
        contract = ("when", above(9), ("often", 9, 1, give(RAIN)))
        contract = ("until", above(20), ("both", contract, ("often", 9, 9, contract)))
        sizes = []
        rest = contract
        for _ in range(300):
            _, rest = cut(rest, rain(0))
            sizes.append(size_of(rest))
        self.assertEqual(sizes[100], sizes[299])
        self.assertEqual(owed(rest, rain(10, 0)), [(0, "ann", "bob", "gold", 100)])

    def test_a_rest_that_is_cut_hour_by_hour_is_no_larger_than_one_cut_at_once(self):
        for number in (RAIN, num(3), ("times", num(2), RAIN), ("minus", num(4), ("times", RAIN, num(3)))):
            contract = ("often", 9, 1, ("when", above(2), give(number)))
            with self.subTest(number=number):
                rest = contract
                for hours in range(1, 12):
                    _, rest = cut(rest, rain(0))
                    _, at_once = cut(contract, rain(*[0] * hours))
                    self.assertEqual(size_of(rest), size_of(at_once))
                    self.assertEqual(owed(rest, rain(5)), owed(at_once, rain(5)))

    def test_gives_that_become_alike_are_all_left(self):
        back = ("when", above(2), give(RAIN, "bob", "ann"))
        contract = ("both", ("often", 3, 1, ("when", above(2), give(RAIN))), back)
        _, rest = cut(contract, rain(0, 0))
        self.assertEqual(owed(rest, rain(5)), [(0, "ann", "bob", "gold", 10)])
        _, rest = cut(("often", 4, 1, ("when", above(2), give(("times", num(2), RAIN), "bob", "ann"))), rain(0, 0, 0))
        self.assertEqual(owed(rest, rain(0, 5)), [(1, "bob", "ann", "gold", 40)])

    def test_the_rest_is_handed_to_the_others(self):
        market = Market(3, [("rain", 0, [(2, 1), (-1, 3)])])
        for where, hold in PLACES.items():
            for word, inner in WORDS.items():
                contract = hold(inner)
                with self.subTest(where=where, word=word):
                    _, rest = cut(contract, rain(0, 1))
                    self.assertGreaterEqual(size_of(rest), 1)
                    ways = byhand.futures(3, [("rain", 0, [(2, 1), (-1, 3)])])
                    # What the whole contract owes behind the two rows, with the future put behind them.
                    found = [byhand.owed(contract, rain(0, 1) + rows) for rows, _ in ways]
                    found = [shifted([one for one in told if one[0] > 1], -2) for told in found]
                    comes = [sum(one[4] * ((one[2] == "bob") - (one[1] == "bob")) for one in told if one[3] == "gold")
                             for told in found]
                    least, low, most, high = bounds(rest, market, "bob", "gold")
                    self.assertEqual((least, most), (min(comes), max(comes)))
                    self.assertEqual([owed(rest, rows) for rows, _ in ways], found)
                    self.assertEqual(worth(rest, market, "bob", "gold"), byhand.mean(rest, ways, "bob", "gold"))
                    lowest = min(byhand.lowest(rest, rows, "bob", "gold") for rows, _ in ways)
                    self.assertEqual(stock(rest, market, "bob", "gold")[0], max(0, -lowest))
                    self.assertIsNone(apart(rest, ("both", rest, NONE), market))
                    self.assertIsNotNone(apart(rest, ("both", rest, GIVE), market))

    def test_asked_again_when_the_answer_is_spoilt(self):
        contract, rows = WORDS["often"], rain(1, 2, 3)
        ahead, rest = cut(contract, rows)
        kept = list(ahead)
        ahead.clear()
        again, other = cut(contract, rows)
        self.assertEqual((again, other), (kept, rest))


class TestInterface(unittest.TestCase):
    def test_the_arguments_have_their_names(self):
        self.assertEqual(owed(contract=GIVE, rows=rain(0)), [(0, "ann", "bob", "gold", 1)])
        self.assertEqual(cut(contract=GIVE, rows=rain(0))[0], [(0, "ann", "bob", "gold", 1)])

    def test_both_are_defined_in_their_file(self):
        self.assertEqual(going.owed.__module__, "contractbook.going")
        self.assertEqual(going.cut.__module__, "contractbook.going")


if __name__ == "__main__":
    unittest.main()
