"""What numbers and conditions come to by a row."""

import unittest

from contractbook import seen
from contractbook.seen import holds, number_of

ROW = {"rain": 7, "sun": -4, "wind": 0}
BIGGEST = 10 ** 12 - 1


def num(n):
    return ("num", n)


TRUE = ("below", num(1), num(2))
FALSE = ("below", num(2), num(1))


class TestNumbers(unittest.TestCase):
    def same(self, told, row, number):
        found = number_of(told, row)
        self.assertEqual(found, number)
        self.assertIs(type(found), int)

    def of_two(self, word, reckon):
        for first in (-10, -3, -1, 0, 1, 2, 9):
            for second in (-11, -3, -2, 0, 1, 2, 8):
                with self.subTest(first=first, second=second):
                    number = reckon(first, second)
                    self.same((word, num(first), num(second)), {}, number)
                    row = {"a": first, "b": second}
                    self.same((word, ("read", "a"), ("read", "b")), row, number)
                    self.same((word, ("read", "a"), num(second)), row, number)
                    self.same((word, num(first), ("read", "b")), row, number)

    def test_written(self):
        for number in (0, 1, -1, 5, -12, 1000):
            with self.subTest(number=number):
                self.same(num(number), ROW, number)
                self.same(num(number), {}, number)

    def test_written_at_the_bounds(self):
        self.same(num(BIGGEST), ROW, 999999999999)
        self.same(num(-BIGGEST), ROW, -999999999999)

    def test_read(self):
        self.same(("read", "rain"), ROW, 7)
        self.same(("read", "sun"), ROW, -4)
        self.same(("read", "wind"), ROW, 0)

    def test_read_names_that_are_words_of_the_contract(self):
        row = {"num": 3, "read": 4, "plus": 5, "none": 6}
        for name in row:
            with self.subTest(name=name):
                self.same(("read", name), row, row[name])

    def test_read_names_of_one_and_of_eight_letters(self):
        row = {"a": 1, "abcdefgh": 2, "abcdefg": 3, "aa": 4}
        for name in row:
            with self.subTest(name=name):
                self.same(("read", name), row, row[name])

    def test_read_numbers_of_any_size(self):
        for number in (10 ** 12, -10 ** 12, 10 ** 40 + 1, -10 ** 40 - 1, 2 ** 63, -2 ** 64 - 1):
            with self.subTest(number=number):
                self.same(("read", "rain"), {"rain": number}, number)

    def test_plus(self):
        self.of_two("plus", lambda first, second: first + second)
        self.same(("plus", num(2), num(3)), {}, 5)

    def test_minus(self):
        self.of_two("minus", lambda first, second: first - second)
        self.same(("minus", num(2), num(3)), {}, -1)
        self.same(("minus", num(3), num(2)), {}, 1)

    def test_times(self):
        self.of_two("times", lambda first, second: first * second)
        self.same(("times", num(-2), num(3)), {}, -6)

    def test_most(self):
        self.of_two("most", lambda first, second: first if first > second else second)
        self.same(("most", num(2), num(3)), {}, 3)
        self.same(("most", num(-2), num(-3)), {}, -2)

    def test_least(self):
        self.of_two("least", lambda first, second: first if first < second else second)
        self.same(("least", num(2), num(3)), {}, 2)
        self.same(("least", num(-2), num(-3)), {}, -3)

    def test_each_word_over_large_numbers(self):
        row = {"a": 10 ** 40 + 1, "b": -10 ** 39 - 7}
        a, b = ("read", "a"), ("read", "b")
        self.same(("plus", a, b), row, 9 * 10 ** 39 - 6)
        self.same(("minus", a, b), row, 11 * 10 ** 39 + 8)
        self.same(("times", a, b), row, -(10 ** 40 + 1) * (10 ** 39 + 7))
        self.same(("most", a, b), row, 10 ** 40 + 1)
        self.same(("least", a, b), row, -10 ** 39 - 7)

    def test_what_written_ones_come_to_may_pass_their_bounds(self):
        big, small = num(BIGGEST), num(-BIGGEST)
        self.same(("plus", big, big), {}, 1999999999998)
        self.same(("minus", small, big), {}, -1999999999998)
        self.same(("times", big, small), {}, -999999999998000000000001)
        self.same(("most", small, big), {}, BIGGEST)
        self.same(("least", small, big), {}, -BIGGEST)

    def test_each_word_within_each_word(self):
        reckon = {
            "plus": lambda first, second: first + second,
            "minus": lambda first, second: first - second,
            "times": lambda first, second: first * second,
            "most": max,
            "least": min,
        }
        row = {"a": 5, "b": -3, "c": 2}
        for outer in reckon:
            for inner in reckon:
                with self.subTest(outer=outer, inner=inner):
                    within = (inner, ("read", "a"), ("read", "b"))
                    number = reckon[inner](5, -3)
                    self.same((outer, within, ("read", "c")), row, reckon[outer](number, 2))
                    self.same((outer, ("read", "c"), within), row, reckon[outer](2, number))
                    self.same((outer, within, within), row, reckon[outer](number, number))

    def test_many_within_one_another(self):
        told = ("minus", ("times", ("plus", ("read", "rain"), num(3)), ("most", num(2), ("read", "sun"))),
                ("least", ("minus", ("read", "wind"), num(1)), ("times", ("read", "sun"), num(6))))
        self.same(told, ROW, 44)
        self.same(told, {"rain": -3, "sun": 5, "wind": 9}, -8)

    def test_twelve_deep(self):
        left = right = num(1)
        for many in range(11):
            left = ("minus", left, num(10))
            right = ("minus", num(10), right)
        self.same(left, {}, -109)
        self.same(right, {}, 9)

    def test_twelve_deep_on_both_hands(self):
        told = ("read", "rain")
        for many in range(11):
            told = ("plus", told, told)
        self.same(told, {"rain": 3}, 6144)

    def test_a_little_deeper_than_twelve(self):
        told = ("read", "rain")
        for many in range(20):
            told = ("plus", told, num(1))
        self.same(told, ROW, 27)

    def test_names_that_are_not_read_do_not_matter(self):
        self.same(("plus", ("read", "rain"), num(1)), {"rain": 7}, 8)
        self.same(("plus", ("read", "rain"), num(1)), ROW, 8)

    def test_the_row_stays(self):
        row = dict(ROW)
        number_of(("plus", ("read", "wind"), ("times", ("read", "sun"), ("read", "rain"))), row)
        self.assertEqual(list(row.items()), list(ROW.items()))

    def test_asked_again_behind_another_row(self):
        told = ("minus", ("read", "rain"), ("read", "sun"))
        other = {"rain": -2, "sun": 9}
        self.same(told, ROW, 11)
        self.same(told, other, -11)
        self.same(told, ROW, 11)
        self.same(told, other, -11)

    def test_asked_again_of_a_row_that_was_changed_meanwhile(self):
        row = {"rain": 1}
        told = ("plus", ("read", "rain"), num(1))
        self.same(told, row, 2)
        row["rain"] = 5
        self.same(told, row, 6)

    def test_rows_with_other_orders_of_names_are_alike(self):
        told = ("minus", ("read", "a"), ("read", "b"))
        self.same(told, {"a": 1, "b": 5}, -4)
        self.same(told, {"b": 5, "a": 1}, -4)


class TestConditions(unittest.TestCase):
    def yes(self, asked, row=ROW):
        self.assertIs(holds(asked, row), True)

    def no(self, asked, row=ROW):
        self.assertIs(holds(asked, row), False)

    def test_below_with_numbers_alike_and_one_apart(self):
        for number in (-BIGGEST + 1, -5, -1, 0, 1, 2, 7, BIGGEST - 1):
            with self.subTest(number=number):
                self.yes(("below", num(number), num(number + 1)))
                self.no(("below", num(number), num(number)))
                self.no(("below", num(number), num(number - 1)))

    def test_below_of_what_is_read(self):
        rain, sun = ("read", "rain"), ("read", "sun")
        self.yes(("below", sun, rain))
        self.no(("below", rain, sun))
        self.no(("below", rain, rain))
        self.yes(("below", rain, num(8)))
        self.no(("below", rain, num(7)))
        self.no(("below", num(7), rain))
        self.yes(("below", num(6), rain))

    def test_below_of_large_numbers_one_apart(self):
        row = {"a": 10 ** 40, "b": 10 ** 40 + 1}
        self.yes(("below", ("read", "a"), ("read", "b")), row)
        self.no(("below", ("read", "b"), ("read", "a")), row)
        self.no(("below", ("read", "a"), ("read", "a")), row)
        self.yes(("below", ("minus", num(0), ("read", "b")), ("minus", num(0), ("read", "a"))), row)

    def test_below_of_numbers_within_one_another(self):
        total = ("plus", ("read", "rain"), ("read", "sun"))
        self.no(("below", total, num(3)))
        self.yes(("below", total, num(4)))
        self.yes(("below", num(2), total))
        self.yes(("below", ("least", ("read", "wind"), num(1)), ("most", ("read", "wind"), num(1))))
        self.no(("below", ("times", num(-2), num(3)), ("minus", num(-3), num(3))))

    def test_not(self):
        self.no(("not", TRUE))
        self.yes(("not", FALSE))

    def test_not_of_numbers_alike(self):
        self.yes(("not", ("below", ("read", "rain"), num(7))))
        self.no(("not", ("below", ("read", "rain"), num(8))))

    def test_all(self):
        self.yes(("all", TRUE, TRUE))
        self.no(("all", TRUE, FALSE))
        self.no(("all", FALSE, TRUE))
        self.no(("all", FALSE, FALSE))

    def test_any(self):
        self.yes(("any", TRUE, TRUE))
        self.yes(("any", TRUE, FALSE))
        self.yes(("any", FALSE, TRUE))
        self.no(("any", FALSE, FALSE))

    def test_not_within_not(self):
        self.yes(("not", ("not", TRUE)))
        self.no(("not", ("not", FALSE)))
        self.no(("not", ("not", ("not", TRUE))))

    def test_all_and_any_within_not(self):
        for first in (TRUE, FALSE):
            for second in (TRUE, FALSE):
                with self.subTest(first=first, second=second):
                    one, other = first == TRUE, second == TRUE
                    self.assertIs(holds(("not", ("all", first, second)), ROW), not (one and other))
                    self.assertIs(holds(("not", ("any", first, second)), ROW), not (one or other))
                    self.assertIs(holds(("all", ("not", first), second), ROW), not one and other)
                    self.assertIs(holds(("any", first, ("not", second)), ROW), one or not other)

    def test_all_and_any_within_one_another(self):
        for first in (TRUE, FALSE):
            for second in (TRUE, FALSE):
                for third in (TRUE, FALSE):
                    with self.subTest(first=first, second=second, third=third):
                        a, b, c = first == TRUE, second == TRUE, third == TRUE
                        self.assertIs(holds(("all", ("any", first, second), third), ROW), (a or b) and c)
                        self.assertIs(holds(("all", first, ("any", second, third)), ROW), a and (b or c))
                        self.assertIs(holds(("any", ("all", first, second), third), ROW), (a and b) or c)
                        self.assertIs(holds(("any", first, ("all", second, third)), ROW), a or (b and c))
                        self.assertIs(holds(("all", ("all", first, second), third), ROW), a and b and c)
                        self.assertIs(holds(("any", ("any", first, second), third), ROW), a or b or c)

    def test_twelve_deep(self):
        asked = ("below", ("read", "rain"), num(8))
        for many in range(10):
            asked = ("not", asked)
        self.yes(asked)
        self.no(asked, {"rain": 8})
        asked = FALSE
        for many in range(5):
            asked = ("any", FALSE, ("all", asked, TRUE))
        self.no(asked)

    def test_the_row_stays(self):
        row = dict(ROW)
        holds(("all", ("below", ("read", "wind"), ("read", "rain")), ("not", FALSE)), row)
        self.assertEqual(list(row.items()), list(ROW.items()))

    def test_asked_again_behind_another_row(self):
        asked = ("any", ("below", ("read", "rain"), num(0)), ("below", ("read", "sun"), num(-4)))
        other = {"rain": 3, "sun": -5}
        self.no(asked)
        self.yes(asked, other)
        self.no(asked)
        self.yes(asked, other)

    def test_asked_again_of_a_row_that_was_changed_meanwhile(self):
        row = {"rain": 1}
        asked = ("not", ("below", ("read", "rain"), num(5)))
        self.no(asked, row)
        row["rain"] = 5
        self.yes(asked, row)


class TestInterface(unittest.TestCase):
    def test_the_arguments_have_their_names(self):
        self.assertEqual(number_of(told=("read", "rain"), row=ROW), 7)
        self.assertIs(holds(asked=TRUE, row=ROW), True)

    def test_both_are_defined_in_their_file(self):
        self.assertEqual(seen.number_of.__module__, "contractbook.seen")
        self.assertEqual(seen.holds.__module__, "contractbook.seen")


if __name__ == "__main__":
    unittest.main()
