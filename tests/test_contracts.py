"""What a contract is, what is refused as none, and how large one is."""

import copy
import unittest

from contractbook import contracts
from contractbook.contracts import need_contract, size_of
from contractbook.errors import BadContract, BadMarket, BadText, BookError, TooMany

BIGGEST = 10 ** 12 - 1

NONE = ("none",)
ONE = ("num", 1)
RAIN = ("read", "rain")
GIVE = ("give", "ann", "bob", "gold", ONE)
WET = ("below", ONE, RAIN)

GOOD_NUMBERS = {
    "num": ("num", 5),
    "read": ("read", "rain"),
    "plus": ("plus", ONE, RAIN),
    "minus": ("minus", RAIN, ONE),
    "times": ("times", RAIN, RAIN),
    "most": ("most", ONE, ("num", -3)),
    "least": ("least", ("plus", ONE, RAIN), ONE),
}
GOOD_CONDITIONS = {
    "below": ("below", RAIN, ("num", 3)),
    "not": ("not", WET),
    "all": ("all", WET, ("not", WET)),
    "any": ("any", ("all", WET, WET), WET),
}
GOOD_CONTRACTS = {
    "none": NONE,
    "give": ("give", "ann", "bob", "gold", ("plus", RAIN, ONE)),
    "both": ("both", GIVE, NONE),
    "turned": ("turned", "ann", "carl", GIVE),
    "later": ("later", 2, GIVE),
    "often": ("often", 3, 2, GIVE),
    "if": ("if", WET, GIVE, NONE),
    "when": ("when", WET, GIVE),
    "until": ("until", WET, ("often", 9, 1, GIVE)),
}

# Each place at which one form may stand within another, with the form that holds it there.
CONTRACT_PLACES = {
    "both, ahead": lambda c: ("both", c, NONE),
    "both, behind": lambda c: ("both", NONE, c),
    "turned": lambda c: ("turned", "ann", "bob", c),
    "later": lambda c: ("later", 1, c),
    "often": lambda c: ("often", 2, 1, c),
    "if, where it holds": lambda c: ("if", WET, c, NONE),
    "if, else": lambda c: ("if", WET, NONE, c),
    "when": lambda c: ("when", WET, c),
    "until": lambda c: ("until", WET, c),
}
ASKING_PLACES = {
    "if": lambda a: ("if", a, NONE, GIVE),
    "when": lambda a: ("when", a, NONE),
    "until": lambda a: ("until", a, GIVE),
}
CONDITION_PLACES = {
    "not": lambda a: ("not", a),
    "all, ahead": lambda a: ("all", a, WET),
    "all, behind": lambda a: ("all", WET, a),
    "any, ahead": lambda a: ("any", a, WET),
    "any, behind": lambda a: ("any", WET, a),
}
BELOW_PLACES = {
    "below, ahead": lambda o: ("below", o, RAIN),
    "below, behind": lambda o: ("below", ONE, o),
}
NUMBER_PLACES = {
    "plus, ahead": lambda o: ("plus", o, ONE),
    "plus, behind": lambda o: ("plus", ONE, o),
    "minus, ahead": lambda o: ("minus", o, ONE),
    "minus, behind": lambda o: ("minus", ONE, o),
    "times, ahead": lambda o: ("times", o, ONE),
    "times, behind": lambda o: ("times", ONE, o),
    "most, ahead": lambda o: ("most", o, ONE),
    "most, behind": lambda o: ("most", ONE, o),
    "least, ahead": lambda o: ("least", o, ONE),
    "least, behind": lambda o: ("least", ONE, o),
}


def give_of(number):
    return ("give", "ann", "bob", "gold", number)


def asked_everywhere(condition):
    """The condition in each place: straight in a contract, and within each other condition."""
    found = [(name, hold(condition)) for name, hold in ASKING_PLACES.items()]
    for name, hold in CONDITION_PLACES.items():
        for outer, ask in ASKING_PLACES.items():
            found.append((f"{outer} of {name}", ask(hold(condition))))
    return found


def told_everywhere(number):
    """The number in each place: in a give, in a condition, and within each other number."""
    found = [("give", give_of(number))]
    for name, hold in NUMBER_PLACES.items():
        found.append((f"give of {name}", give_of(hold(number))))
    for name, hold in BELOW_PLACES.items():
        found.extend((f"{name} of {where}", told) for where, told in asked_everywhere(hold(number)))
    for name, hold in NUMBER_PLACES.items():
        found.append((f"when of below of {name}", ("when", ("below", hold(number), ONE), NONE)))
    return found


def held_everywhere(contract):
    """The contract alone, and within a good contract at each place."""
    return [("alone", contract)] + [(name, hold(contract)) for name, hold in CONTRACT_PLACES.items()]


def nested(hold, inner, times):
    for _ in range(times):
        inner = hold(inner)
    return inner


def parts_within(told):
    """Each tuple within a tuple: the way to it, as the places one by one."""
    ways = [()]
    for at, part in enumerate(told):
        if isinstance(part, tuple):
            ways.extend((at,) + way for way in parts_within(part))
    return ways


def with_part(told, way, change):
    """The same, but for the part at the end of the way, which is changed."""
    if way == ():
        return change(told)
    at = way[0]
    return told[:at] + (with_part(told[at], way[1:], change),) + told[at + 1:]


NO_FORMS = [
    None, True, False, 0, 1, -1, 7, 1.5, "", "none", "num", "give", b"none", [], {}, set(),
    frozenset(["none"]), object(), ["none"], ["num", 1], {"none": 1}, {"num": 1}, (), ((),),
    (None,), (0,), (1,), (True,), (b"none",), (["none"],), ({},), (("none",),), (("num", 1),),
    ("",), ("None",), ("NONE",), ("none ",), (" none",), ("nothing",), ("nome",), ("non",), ("nones",),
    ("gives", "ann", "bob", "gold", ONE), ("Give", "ann", "bob", "gold", ONE), ("or", NONE, NONE),
    ("and", WET, WET), ("or", WET, WET), ("Num", 1), ("number", 1), ("above", ONE, RAIN), ("max", ONE, ONE),
    ("min", ONE, ONE), ("divide", ONE, ONE), ("name", "rain"), ("unless", WET, GIVE), ("side",), ("contract",),
]

BAD_WORDS = [
    "", "abcdefghi", "abcdefghijklmnop", "A", "Ann", "ANN", "anN", "aNn", "a1", "1", "1a", "an n", " ann",
    "ann ", " ", "ann\n", "\n", "\tann", "a-b", "a_b", "_", "a.b", "a,b", "(ann)", "\u00e9", "a\u00e9",
    "\u00df", "\u00f1an", "\u03b1", "\u0430nn", "\uff41nn", "\u00aa", "a\u0301", "\x00", "a`", "a{", "@", "[",
    None, True, False, 0, 5, 1.0, b"ann", b"", (), ("ann",), ["ann"], [], {}, {"ann": 1}, ("read", "ann"), object(),
]

NO_NUMBERS = [True, False, None, 1.0, 2.5, float("nan"), float("inf"), "", "1", "ann", b"1", (), (1,), [1], [], {},
              ("num", 1), ("read", "rain"), object()]


class Contracts(unittest.TestCase):
    def good(self, contract):
        try:
            self.assertIsNone(need_contract(contract))
        except BookError as error:
            self.fail(f"refused: {contract!r}: {error}")

    def refused(self, contract):
        with self.assertRaises(BadContract) as caught:
            need_contract(contract)
        self.assertIsInstance(caught.exception, BookError)
        self.assertIsInstance(caught.exception, ValueError)
        for other in (BadMarket, TooMany, BadText):
            self.assertNotIsInstance(caught.exception, other)

    def good_everywhere(self, contract):
        for where, told in held_everywhere(contract):
            with self.subTest(where=where, contract=contract):
                self.good(told)

    def refused_everywhere(self, contract):
        for where, told in held_everywhere(contract):
            with self.subTest(where=where, contract=contract):
                self.refused(told)


class TestGoodOnes(Contracts):
    def test_each_word(self):
        for word, contract in GOOD_CONTRACTS.items():
            with self.subTest(word=word):
                self.good(contract)

    def test_each_word_within_each_word(self):
        for contract in GOOD_CONTRACTS.values():
            self.good_everywhere(contract)

    def test_each_condition_in_each_place(self):
        for condition in GOOD_CONDITIONS.values():
            for where, contract in asked_everywhere(condition):
                with self.subTest(where=where, condition=condition):
                    self.good(contract)

    def test_each_number_in_each_place(self):
        for number in GOOD_NUMBERS.values():
            for where, contract in told_everywhere(number):
                with self.subTest(where=where, number=number):
                    self.good(contract)

    def test_words_at_their_bounds(self):
        for word in ("a", "z", "m", "ab", "zz", "abcdefg", "abcdefgh", "zzzzzzzz", "az"):
            with self.subTest(word=word):
                self.good(("give", word, "x", "gold", ONE))
                self.good(("give", "x", word, "gold", ONE))
                self.good(("give", "ann", "bob", word, ONE))
                self.good(("give", "ann", "bob", "gold", ("read", word)))
                self.good(("turned", word, "x", NONE))
                self.good(("turned", "x", word, NONE))

    def test_each_letter(self):
        for letter in "abcdefghijklmnopqrstuvwxyz":
            with self.subTest(letter=letter):
                self.good(("give", letter, letter + letter, letter + "q" + letter, ("read", letter)))

    def test_words_of_contracts_are_words_too(self):
        for word in ("none", "give", "num", "read", "plus", "below", "not", "all", "any", "turned", "until"):
            with self.subTest(word=word):
                self.good(("give", word, "bob", "gold", ("read", word)))
                self.good(("give", "ann", word, word, ONE))
                self.good(("turned", "ann", word, NONE))

    def test_a_good_and_a_name_may_be_called_as_a_side_is(self):
        self.good(("give", "ann", "bob", "ann", ("read", "ann")))
        self.good(("give", "ann", "bob", "bob", ("read", "bob")))

    def test_sides_that_are_nearly_alike(self):
        for one, other in (("ann", "anne"), ("anne", "ann"), ("a", "aa"), ("abcdefgh", "abcdefgg"), ("ab", "ba")):
            with self.subTest(one=one, other=other):
                self.good(("give", one, other, "gold", ONE))
                self.good(("turned", one, other, GIVE))

    def test_sides_may_come_again_in_another_contract(self):
        self.good(("both", ("give", "ann", "bob", "gold", ONE), ("give", "bob", "ann", "gold", ONE)))
        self.good(("turned", "ann", "bob", ("turned", "ann", "bob", GIVE)))
        self.good(("turned", "ann", "bob", ("turned", "bob", "ann", GIVE)))

    def test_written_numbers_at_their_bounds(self):
        for number in (0, 1, -1, 99, 100, -100, 10 ** 11, BIGGEST, -BIGGEST):
            for where, contract in told_everywhere(("num", number)):
                with self.subTest(where=where, number=number):
                    self.good(contract)

    def test_what_numbers_come_to_has_no_bound(self):
        big = ("num", BIGGEST)
        self.good(give_of(("times", big, ("times", big, big))))
        self.good(give_of(("plus", big, big)))
        self.good(("when", ("below", ("times", big, big), ("minus", ("num", -BIGGEST), big)), GIVE))

    def test_hours_at_their_bounds(self):
        for hours in (0, 1, 2, 50, 98, 99):
            self.good_everywhere(("later", hours, GIVE))

    def test_counts_at_their_bounds(self):
        for count in range(1, 10):
            self.good_everywhere(("often", count, 1, GIVE))

    def test_gaps_at_their_bounds(self):
        for gap in (1, 2, 50, 98, 99):
            self.good_everywhere(("often", 2, gap, GIVE))

    def test_count_and_gap_have_each_its_own_bounds(self):
        self.good(("often", 9, 99, GIVE))
        self.good(("often", 1, 99, GIVE))
        self.good(("often", 9, 1, GIVE))

    def test_hours_together_have_no_bound(self):
        self.good(("later", 99, ("later", 99, ("often", 9, 99, ("often", 9, 99, GIVE)))))

    def test_asked_twice_it_is_good_twice(self):
        for contract in GOOD_CONTRACTS.values():
            with self.subTest(contract=contract):
                self.good(contract)
                self.good(contract)

    def test_a_part_that_is_one_object_in_several_places(self):
        part = ("both", GIVE, GIVE)
        self.good(("both", part, ("if", WET, part, part)))


class TestDepth(Contracts):
    def test_twelve_and_thirteen_contracts(self):
        for where in ("both, ahead", "both, behind", "turned", "later", "often"):
            with self.subTest(where=where):
                self.good(nested(CONTRACT_PLACES[where], NONE, 11))
                self.refused(nested(CONTRACT_PLACES[where], NONE, 12))

    def test_a_number_in_a_give_is_one_deeper(self):
        for where in ("both, ahead", "both, behind", "turned", "later", "often"):
            for number in (ONE, RAIN):
                with self.subTest(where=where, number=number):
                    self.good(nested(CONTRACT_PLACES[where], give_of(number), 10))
                    self.refused(nested(CONTRACT_PLACES[where], give_of(number), 11))

    def test_contracts_beside_conditions(self):
        # The numbers in the condition stand two deeper than the contract that asks it.
        for where, hold in CONTRACT_PLACES.items():
            if where not in ("both, ahead", "both, behind", "turned", "later", "often"):
                with self.subTest(where=where):
                    self.good(nested(hold, NONE, 10))
                    self.refused(nested(hold, NONE, 11))

    def test_a_condition_and_its_numbers_are_deeper(self):
        for where, ask in ASKING_PLACES.items():
            with self.subTest(where=where):
                self.good(nested(CONTRACT_PLACES["later"], ask(WET), 9))
                self.refused(nested(CONTRACT_PLACES["later"], ask(WET), 10))

    def test_numbers_in_a_give(self):
        for where, hold in NUMBER_PLACES.items():
            for number in (ONE, RAIN):
                with self.subTest(where=where, number=number):
                    self.good(give_of(nested(hold, number, 10)))
                    self.refused(give_of(nested(hold, number, 11)))

    def test_numbers_in_a_condition(self):
        for where, hold in NUMBER_PLACES.items():
            for place, below in BELOW_PLACES.items():
                for asking, ask in ASKING_PLACES.items():
                    with self.subTest(where=where, place=place, asking=asking):
                        self.good(ask(below(nested(hold, RAIN, 9))))
                        self.refused(ask(below(nested(hold, RAIN, 10))))

    def test_conditions(self):
        for where, hold in CONDITION_PLACES.items():
            for asking, ask in ASKING_PLACES.items():
                with self.subTest(where=where, asking=asking):
                    self.good(ask(nested(hold, WET, 9)))
                    self.refused(ask(nested(hold, WET, 10)))

    def test_contracts_conditions_and_numbers_together(self):
        number = nested(NUMBER_PLACES["times, behind"], RAIN, 3)
        condition = nested(CONDITION_PLACES["any, behind"], ("below", ONE, number), 3)
        self.good(nested(CONTRACT_PLACES["both, behind"], ("if", condition, NONE, GIVE), 3))
        self.good(nested(CONTRACT_PLACES["if, else"], ("until", condition, NONE), 3))
        self.refused(nested(CONTRACT_PLACES["both, behind"], ("if", condition, NONE, GIVE), 4))
        self.refused(nested(CONTRACT_PLACES["if, else"], ("until", condition, NONE), 4))

    def test_the_deepest_part_counts_wherever_it_stands(self):
        deep = nested(CONTRACT_PLACES["later"], NONE, 10)
        deeper = nested(CONTRACT_PLACES["later"], NONE, 11)
        for where, hold in CONTRACT_PLACES.items():
            with self.subTest(where=where):
                self.good(hold(deep))
                self.refused(hold(deeper))

    def test_parts_beside_one_another_are_no_deeper(self):
        wide = nested(lambda c: ("both", c, c), NONE, 11)
        self.good(wide)
        self.refused(("both", NONE, wide))

    def test_far_deeper(self):
        for times in (12, 13, 20, 60):
            with self.subTest(times=times):
                self.refused(nested(CONTRACT_PLACES["later"], GIVE, times))
                self.refused(give_of(nested(NUMBER_PLACES["plus, ahead"], ONE, times)))
                self.refused(("when", nested(CONDITION_PLACES["not"], WET, times), NONE))


class TestNoForms(Contracts):
    def test_in_the_place_of_a_contract(self):
        for wrong in NO_FORMS:
            self.refused_everywhere(wrong)

    def test_in_the_place_of_a_condition(self):
        for wrong in NO_FORMS:
            for where, contract in asked_everywhere(wrong):
                with self.subTest(where=where, wrong=wrong):
                    self.refused(contract)

    def test_in_the_place_of_a_number(self):
        for wrong in NO_FORMS:
            for where, contract in told_everywhere(wrong):
                with self.subTest(where=where, wrong=wrong):
                    self.refused(contract)

    def test_a_number_is_no_contract(self):
        for number in GOOD_NUMBERS.values():
            self.refused_everywhere(number)

    def test_a_condition_is_no_contract(self):
        for condition in GOOD_CONDITIONS.values():
            self.refused_everywhere(condition)

    def test_a_contract_or_a_number_is_no_condition(self):
        for wrong in list(GOOD_CONTRACTS.values()) + list(GOOD_NUMBERS.values()):
            for where, contract in asked_everywhere(wrong):
                with self.subTest(where=where, wrong=wrong):
                    self.refused(contract)

    def test_a_contract_or_a_condition_is_no_number(self):
        for wrong in list(GOOD_CONTRACTS.values()) + list(GOOD_CONDITIONS.values()):
            for where, contract in told_everywhere(wrong):
                with self.subTest(where=where, wrong=wrong):
                    self.refused(contract)

    def test_a_word_in_other_letters(self):
        for contract in GOOD_CONTRACTS.values():
            word = contract[0]
            for wrong in (word.upper(), word.title(), word + " ", " " + word, word + "s", word[:-1], word.encode()):
                self.refused_everywhere((wrong,) + contract[1:])

    def test_a_word_with_the_parts_of_another(self):
        for wrong in (
            ("none", GIVE, GIVE), ("give", "ann", "bob", GIVE), ("both", 2, GIVE), ("both", WET, GIVE),
            ("both", "ann", "bob", GIVE), ("turned", "ann", "bob", "gold", ONE), ("turned", 3, 2, GIVE),
            ("turned", WET, GIVE, NONE), ("later", 3, 2, GIVE), ("later", WET, GIVE), ("later", ONE, GIVE),
            ("later", GIVE, NONE), ("often", 2, GIVE), ("often", "ann", "bob", GIVE), ("often", WET, GIVE, NONE),
            ("if", WET, GIVE), ("if", 3, 2, GIVE), ("if", "ann", "bob", GIVE), ("when", WET, GIVE, NONE),
            ("when", 2, GIVE), ("when", GIVE, NONE), ("until", WET, GIVE, NONE), ("until", 2, GIVE),
            ("until", GIVE, NONE),
        ):
            self.refused_everywhere(wrong)
        for wrong in (("below", WET), ("below", WET, WET), ("not", WET, WET), ("not", ONE), ("not", ONE, RAIN),
                      ("all", WET), ("all", ONE, RAIN), ("any", WET), ("any", ONE, RAIN), ("any", WET, ONE)):
            for where, contract in asked_everywhere(wrong):
                with self.subTest(where=where, wrong=wrong):
                    self.refused(contract)
        for wrong in (("num", "rain"), ("num", ONE), ("num", 1, 2), ("read", 1), ("read", RAIN), ("read", "a", "b"),
                      ("plus", 1), ("plus", 1, 2), ("minus", "rain", "sun"), ("times", WET, WET), ("most", ONE),
                      ("least", ONE, ONE, ONE)):
            for where, contract in told_everywhere(wrong):
                with self.subTest(where=where, wrong=wrong):
                    self.refused(contract)

    def test_a_list_in_the_place_of_any_tuple(self):
        self.refused_in_each_part(list)

    def test_other_things_in_the_place_of_any_tuple(self):
        for other in (None, True, 0, 1, "", "none", b"none", [], {}, ()):
            self.refused_in_each_part(lambda part: other)
        self.refused_in_each_part(lambda part: part[0])
        self.refused_in_each_part(lambda part: (part,))
        self.refused_in_each_part(lambda part: {part[0]: part[1:]})
        self.refused_in_each_part(lambda part: repr(part))

    def test_other_counts_of_parts_in_any_tuple(self):
        self.refused_in_each_part(lambda part: part[:-1])
        for more in (None, 0, 1, "ann", (), NONE, ONE, WET):
            self.refused_in_each_part(lambda part: part + (more,))
            self.refused_in_each_part(lambda part: part[:1] + (more,) + part[1:])

    def refused_in_each_part(self, change):
        contracts_told = list(GOOD_CONTRACTS.values())
        contracts_told += [give_of(number) for number in GOOD_NUMBERS.values()]
        contracts_told += [("until", condition, GIVE) for condition in GOOD_CONDITIONS.values()]
        for contract in contracts_told:
            for way in parts_within(contract):
                wrong = with_part(contract, way, change)
                with self.subTest(contract=contract, wrong=wrong):
                    self.refused(wrong)
                    for hold in CONTRACT_PLACES.values():
                        self.refused(hold(wrong))


class TestCountsOfParts(Contracts):
    def test_no_part_at_all(self):
        for word in ("give", "both", "turned", "later", "often", "if", "when", "until"):
            self.refused_everywhere((word,))

    def test_none_has_no_parts(self):
        for part in (None, (), 0, "", "none", NONE):
            self.refused_everywhere(("none", part))

    def test_parts_too_few(self):
        for contract in GOOD_CONTRACTS.values():
            for count in range(1, len(contract)):
                self.refused_everywhere(contract[:count])

    def test_parts_too_many(self):
        for contract in GOOD_CONTRACTS.values():
            for more in (None, NONE, ONE, 1, "ann"):
                self.refused_everywhere(contract + (more,))
            self.refused_everywhere(contract + contract)

    def test_parts_in_another_order(self):
        for wrong in (
            ("give", ONE, "ann", "bob", "gold"), ("give", "ann", "bob", ONE, "gold"), ("turned", GIVE, "ann", "bob"),
            ("turned", "ann", GIVE, "bob"), ("later", GIVE, 2), ("often", GIVE, 3, 2), ("often", 3, GIVE, 2),
            ("if", GIVE, WET, NONE), ("if", GIVE, NONE, WET), ("when", GIVE, WET), ("until", GIVE, WET),
        ):
            self.refused_everywhere(wrong)

    def test_parts_of_numbers_and_conditions(self):
        for number in GOOD_NUMBERS.values():
            for wrong in (number[:1], number[:-1], number + (ONE,), number + number[1:], number + (None,)):
                for where, contract in told_everywhere(wrong):
                    with self.subTest(where=where, wrong=wrong):
                        self.refused(contract)
        for condition in GOOD_CONDITIONS.values():
            for wrong in (condition[:1], condition[:-1], condition + (WET,), condition + (ONE,), condition + (None,)):
                for where, contract in asked_everywhere(wrong):
                    with self.subTest(where=where, wrong=wrong):
                        self.refused(contract)


class TestWords(Contracts):
    def test_sides_that_are_alike_in_a_give(self):
        for side in ("ann", "a", "abcdefgh", "none"):
            self.refused_everywhere(("give", side, side, "gold", ONE))
            self.refused_everywhere(("give", side, "".join(list(side)), "gold", ONE))

    def test_sides_that_are_alike_in_a_turned(self):
        for side in ("ann", "a", "abcdefgh", "none"):
            self.refused_everywhere(("turned", side, side, GIVE))
            self.refused_everywhere(("turned", side, "".join(list(side)), NONE))

    def test_sides_of_a_give(self):
        for wrong in BAD_WORDS:
            self.refused_everywhere(("give", wrong, "bob", "gold", ONE))
            self.refused_everywhere(("give", "ann", wrong, "gold", ONE))

    def test_the_good_of_a_give(self):
        for wrong in BAD_WORDS:
            self.refused_everywhere(("give", "ann", "bob", wrong, ONE))

    def test_sides_of_a_turned(self):
        for wrong in BAD_WORDS:
            self.refused_everywhere(("turned", wrong, "bob", GIVE))
            self.refused_everywhere(("turned", "ann", wrong, GIVE))

    def test_names_that_are_read(self):
        for wrong in BAD_WORDS:
            for where, contract in told_everywhere(("read", wrong)):
                with self.subTest(where=where, wrong=wrong):
                    self.refused(contract)

    def test_each_sign_that_is_no_small_letter(self):
        small = "abcdefghijklmnopqrstuvwxyz"
        for code in range(0, 400):
            if chr(code) not in small:
                with self.subTest(code=code):
                    self.refused(("give", chr(code), "bob", "gold", ONE))
                    self.refused(("give", "ann", "b" + chr(code), "gold", ONE))
                    self.refused(("give", "ann", "bob", "go" + chr(code) + "d", ONE))
                    self.refused(give_of(("read", "r" + chr(code))))
                    self.refused(("turned", "a" + chr(code), "bob", GIVE))


class TestNumbers(Contracts):
    def test_written_numbers(self):
        for wrong in NO_NUMBERS + [10 ** 12, -10 ** 12, 10 ** 12 + 1, -10 ** 12 - 1, 10 ** 40, -10 ** 40, 2 ** 63]:
            for where, contract in told_everywhere(("num", wrong)):
                with self.subTest(where=where, wrong=wrong):
                    self.refused(contract)

    def test_a_bare_number_or_name(self):
        for wrong in (1, 0, -1, 5, "rain", True, False):
            for where, contract in told_everywhere(wrong):
                with self.subTest(where=where, wrong=wrong):
                    self.refused(contract)

    def test_hours(self):
        for wrong in NO_NUMBERS + [-1, -2, -99, 100, 101, 1000, 10 ** 12, 10 ** 40, -10 ** 40]:
            self.refused_everywhere(("later", wrong, GIVE))

    def test_counts(self):
        for wrong in NO_NUMBERS + [0, -1, -9, 10, 11, 99, 100, 10 ** 12, 10 ** 40, -10 ** 40]:
            self.refused_everywhere(("often", wrong, 1, GIVE))
            self.refused_everywhere(("often", wrong, 99, GIVE))

    def test_gaps(self):
        for wrong in NO_NUMBERS + [0, -1, -99, 100, 101, 1000, 10 ** 12, 10 ** 40, -10 ** 40]:
            self.refused_everywhere(("often", 1, wrong, GIVE))
            self.refused_everywhere(("often", 9, wrong, GIVE))

    def test_wrong_ones_around_none(self):
        self.refused(("later", 100, NONE))
        self.refused(("later", -1, NONE))
        self.refused(("often", 0, 1, NONE))
        self.refused(("often", 10, 1, NONE))
        self.refused(("often", 1, 0, NONE))
        self.refused(("often", 1, 100, NONE))


class TestHandedIn(Contracts):
    def test_what_is_refused_stays_as_it_is(self):
        wrong = ["both", [1, "ann", {"rain": [2]}], ["give", "ann", ["bob"]]]
        before = copy.deepcopy(wrong)
        self.refused(wrong)
        self.refused(("both", GIVE, wrong))
        self.refused(("when", wrong, GIVE))
        self.refused(give_of(wrong))
        self.refused(("give", wrong, "bob", "gold", ONE))
        self.assertEqual(wrong, before)

    def test_asked_again_it_is_refused_again(self):
        for wrong in (("later", 100, NONE), ["none"], ("give", "ann", "ann", "gold", ONE)):
            with self.subTest(wrong=wrong):
                self.refused(wrong)
                self.refused(wrong)

    def test_good_ones_and_wrong_ones_by_turns(self):
        for _ in range(2):
            self.good(("often", 1, 1, GIVE))
            self.refused(("often", True, 1, GIVE))
            self.good(("later", 0, NONE))
            self.refused(("later", False, NONE))
            self.refused(give_of(("num", 1.0)))
            self.good(give_of(("num", 1)))


class TestSizes(unittest.TestCase):
    def size(self, contract, number):
        found = size_of(contract)
        self.assertEqual(found, number)
        self.assertIs(type(found), int)

    def test_each_word(self):
        self.size(NONE, 1)
        self.size(GIVE, 1)
        self.size(("both", NONE, NONE), 3)
        self.size(("turned", "ann", "bob", NONE), 2)
        self.size(("later", 5, NONE), 2)
        self.size(("often", 3, 2, NONE), 2)
        self.size(("if", WET, NONE, NONE), 3)
        self.size(("when", WET, NONE), 2)
        self.size(("until", WET, NONE), 2)

    def test_each_word_around_a_larger_one(self):
        inner = ("both", GIVE, ("later", 1, GIVE))
        self.size(inner, 4)
        for where, hold in CONTRACT_PLACES.items():
            with self.subTest(where=where):
                lone = 3 if where.startswith("both") or where.startswith("if") else 2
                self.size(hold(NONE), lone)
                self.size(hold(inner), lone + 3)

    def test_each_word_within_each_word(self):
        for outer, hold in CONTRACT_PLACES.items():
            for within, keep in CONTRACT_PLACES.items():
                with self.subTest(outer=outer, within=within):
                    self.size(hold(keep(GIVE)), size_of(hold(GIVE)) + size_of(keep(GIVE)) - 1)

    def test_both_hands_count(self):
        left, right = ("later", 1, GIVE), ("when", WET, ("later", 1, GIVE))
        self.size(("both", left, right), 6)
        self.size(("both", right, left), 6)
        self.size(("if", WET, left, right), 6)
        self.size(("if", WET, right, left), 6)

    def test_numbers_and_conditions_do_not_count(self):
        number = nested(lambda o: ("plus", o, o), RAIN, 5)
        condition = nested(lambda a: ("all", a, ("not", a)), ("below", number, number), 3)
        self.size(give_of(number), 1)
        self.size(("if", condition, GIVE, NONE), 3)
        self.size(("when", condition, give_of(number)), 2)
        self.size(("until", condition, give_of(number)), 2)

    def test_how_often_or_how_late_does_not_count(self):
        for number in (1, 2, 9):
            self.size(("often", number, 99, GIVE), 2)
            self.size(("often", 9, number, GIVE), 2)
            self.size(("later", number, GIVE), 2)
        self.size(("later", 0, GIVE), 2)

    def test_parts_that_are_alike_count_each(self):
        self.size(("both", GIVE, GIVE), 3)
        part = ("both", GIVE, ("both", GIVE, GIVE))
        self.size(part, 5)
        self.size(("if", WET, part, part), 11)
        self.size(nested(lambda c: ("both", c, c), GIVE, 11), 4095)

    def test_nothing_is_left_out_where_it_gives_nothing(self):
        self.size(give_of(("num", 0)), 1)
        self.size(("both", NONE, ("later", 0, NONE)), 4)
        self.size(("turned", "ann", "bob", ("turned", "ann", "bob", NONE)), 3)

    def test_names_like_words_of_contracts_do_not_count(self):
        self.size(("give", "none", "give", "both", ("read", "later")), 1)
        self.size(("turned", "none", "both", ("give", "none", "if", "when", ("read", "none"))), 2)

    def test_deep_ones(self):
        for times in (1, 11, 12, 30):
            with self.subTest(times=times):
                self.size(nested(CONTRACT_PLACES["later"], GIVE, times), times + 1)
                self.size(nested(CONTRACT_PLACES["both, behind"], GIVE, times), 2 * times + 1)
                self.size(nested(CONTRACT_PLACES["if, where it holds"], GIVE, times), 2 * times + 1)

    def test_asked_again(self):
        contract = ("both", GIVE, ("often", 2, 2, ("if", WET, NONE, GIVE)))
        self.size(contract, 6)
        self.size(GIVE, 1)
        self.size(contract, 6)


class TestInterface(unittest.TestCase):
    def test_the_arguments_have_their_names(self):
        self.assertIsNone(need_contract(contract=GIVE))
        self.assertEqual(size_of(contract=GIVE), 1)

    def test_both_are_defined_in_their_file(self):
        self.assertEqual(contracts.need_contract.__module__, "contractbook.contracts")
        self.assertEqual(contracts.size_of.__module__, "contractbook.contracts")


if __name__ == "__main__":
    unittest.main()
