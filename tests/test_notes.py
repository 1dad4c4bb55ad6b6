"""Contracts as texts: what is written, what is read, and what is refused."""

import copy
import re
import unittest

from contractbook import notes as file
from contractbook.contracts import need_contract
from contractbook.errors import BadContract, BadMarket, BadText, BookError, TooMany
from contractbook.notes import read, written
from samples import NONE, PLACES, RAIN, WORDS, above, draws, drawn_contract, give, num

BIGGEST = 10 ** 12 - 1
WET = ("below", num(5), RAIN)
# Each word of the language, as a contract and as its text.
TEXTS = {
    "none": NONE,
    "give(ann, bob, gold, 3)": give(3),
    "give(ann, bob, gold, rain)": give(RAIN),
    "give(ann, bob, gold, plus(rain, 3))": give(("plus", RAIN, num(3))),
    "give(ann, bob, gold, minus(3, rain))": give(("minus", num(3), RAIN)),
    "give(ann, bob, gold, times(-3, rain))": give(("times", num(-3), RAIN)),
    "give(ann, bob, gold, most(0, rain))": give(("most", num(0), RAIN)),
    "give(ann, bob, gold, least(rain, sun))": give(("least", RAIN, ("read", "sun"))),
    "both(none, give(bob, ann, tin, 1))": ("both", NONE, give(1, "bob", "ann", "tin")),
    "turned(ann, carl, none)": ("turned", "ann", "carl", NONE),
    "later(2, none)": ("later", 2, NONE),
    "later(0, none)": ("later", 0, NONE),
    "later(99, none)": ("later", 99, NONE),
    "often(3, 2, none)": ("often", 3, 2, NONE),
    "often(9, 99, none)": ("often", 9, 99, NONE),
    "if(below(5, rain), none, later(1, none))": ("if", WET, NONE, ("later", 1, NONE)),
    "when(not(below(5, rain)), none)": ("when", ("not", WET), NONE),
    "until(all(below(5, rain), below(rain, 9)), none)": ("until", ("all", WET, ("below", RAIN, num(9))), NONE),
    "until(any(below(5, rain), not(below(5, rain))), none)": ("until", ("any", WET, ("not", WET)), NONE),
    "give(ann, bob, gold, plus(plus(1, 2), times(rain, -1)))":
        give(("plus", ("plus", num(1), num(2)), ("times", RAIN, num(-1)))),
}
LANGUAGE = ("none", "give", "both", "turned", "later", "often", "if", "when", "until", "num", "read", "plus", "minus",
            "times", "most", "least", "below", "not", "all", "any")
PIECE = re.compile(r"-?[0-9]+|[a-z]+|[(),]")
GIVE = "give(ann, bob, gold, 3)"


class Notes(unittest.TestCase):
    def read_as(self, text, contract):
        try:
            found = read(text)
        except BookError as error:
            self.fail(f"refused: {text!r}: {error}")
        self.assertEqual(found, contract)
        self.assertIs(type(found), tuple)

    def refused(self, text):
        with self.assertRaises(BadText) as caught:
            read(text)
        self.assertIsInstance(caught.exception, BookError)
        self.assertIsInstance(caught.exception, ValueError)
        for other in (BadContract, BadMarket, TooMany):
            self.assertNotIsInstance(caught.exception, other)

    def all_refused(self, *texts):
        for text in texts:
            with self.subTest(text=text):
                self.refused(text)


class TestWritten(Notes):
    def test_each_word(self):
        for text, contract in TEXTS.items():
            with self.subTest(text=text):
                kept = copy.deepcopy(contract)
                need_contract(contract)
                self.assertIs(type(written(contract)), str)
                self.assertEqual(written(contract), text)
                self.assertEqual(contract, kept)

    def test_within_one_another(self):
        for where, hold in PLACES.items():
            with self.subTest(where=where):
                self.assertEqual(written(hold(NONE)), {
                    "both, ahead": "both(none, give(bob, carl, gold, 50))",
                    "both, behind": "both(give(bob, carl, gold, 50), none)",
                    "turned": "turned(bob, carl, none)",
                    "later": "later(1, none)",
                    "often": "often(2, 1, none)",
                    "if, where it holds": "if(below(0, rain), none, give(ann, bob, gold, 7))",
                    "if, else": "if(below(0, rain), give(ann, bob, gold, 7), none)",
                    "when": "when(below(1, rain), none)",
                    "until": "until(below(2, rain), none)",
                }[where])
                self.assertEqual(written(hold(hold(give(-4)))).count("give(ann, bob, gold, -4)"), 1)

    def test_numbers(self):
        for number, figures in ((0, "0"), (7, "7"), (-1, "-1"), (10, "10"), (-10, "-10"), (BIGGEST, "9" * 12),
                                (-BIGGEST, "-" + "9" * 12), (100000, "100000")):
            self.assertEqual(written(give(number)), f"give(ann, bob, gold, {figures})")

    def test_words_of_the_language_as_sides_goods_and_names(self):
        for word in LANGUAGE:
            self.assertEqual(written(give(("read", word), word, "x" + word[:5], word)),
                             f"give({word}, x{word[:5]}, {word}, {word})")
            self.assertEqual(written(("turned", "x", word, NONE)), f"turned(x, {word}, none)")

    def test_a_long_one_and_ones_a_little_beyond_the_limits(self):
        contract = NONE
        for _ in range(9):
            contract = ("both", contract, contract)
        self.assertEqual(len(written(contract)), 512 * 4 + 511 * 8)
        self.assertEqual(written(("later", 100, ("often", 10, 0, give(10 ** 12, "Elizabeth")))),
                         "later(100, often(10, 0, give(Elizabeth, bob, gold, 1000000000000)))")
        deep = NONE
        for _ in range(60):
            deep = ("later", 1, deep)
        self.assertEqual(written(deep), "later(1, " * 60 + "none" + ")" * 60)


class TestRead(Notes):
    def test_each_word(self):
        for text, contract in TEXTS.items():
            with self.subTest(text=text):
                self.read_as(text, contract)

    def test_what_is_written(self):
        for contract in [hold(inner) for hold in PLACES.values() for inner in WORDS.values()]:
            self.read_as(written(contract), contract)
        many = 0
        for seed, draw in draws(41000, 500):
            contract = drawn_contract(draw, ["rain", "sun", "num", "none"], draw.randint(0, 5))
            text = written(contract)
            with self.subTest(seed=seed):
                if len(text) <= 4000:
                    many += 1
                    self.read_as(text, contract)
                else:
                    self.refused(text)
        self.assertGreater(many, 300)

    def test_numbers_at_their_bounds(self):
        for number in (0, 1, -1, 9, 10, 99, 100, BIGGEST, -BIGGEST, 10 ** 11, -10 ** 11):
            self.read_as(f"give(ann, bob, gold, {number})", give(number))
            self.read_as(f"when(below({number}, rain), none)", ("when", ("below", num(number), RAIN), NONE))

    def test_each_figure_and_letter(self):
        for figure in "0123456789":
            self.read_as(f"give(ann, bob, gold, 1{figure}1)", give(101 + 10 * int(figure)))
            self.read_as(f"give(ann, bob, gold, {figure})", give(int(figure)))
        for letter in "abcdefghijklmnopqrstuvwxyz":
            self.read_as(f"give({letter}, {letter}x, {letter}, {letter})",
                         give(("read", letter), letter, letter + "x", letter))

    def test_words_of_the_language_as_sides_goods_and_names(self):
        for word in LANGUAGE:
            for contract in (give(("read", word), word, "x", word), give(("read", word), "x", word, word),
                             ("turned", word, "x", NONE), ("turned", "x", word, give(num(3), good=word)),
                             ("when", ("below", ("read", word), ("plus", ("read", word), num(1))), NONE)):
                with self.subTest(contract=contract):
                    self.read_as(written(contract), contract)
        self.read_as("give(num, read, num, num)", give(("read", "num"), "num", "read", "num"))
        self.read_as("give(plus, minus, times, plus(plus, minus))",
                     give(("plus", ("read", "plus"), ("read", "minus")), "plus", "minus", "times"))
        self.read_as("if(below(below, not), none, give(none, if, none, none))",
                     ("if", ("below", ("read", "below"), ("read", "not")), NONE,
                      give(("read", "none"), "none", "if", "none")))

    def test_without_blanks(self):
        for text, contract in TEXTS.items():
            self.read_as(text.replace(" ", ""), contract)

    def test_with_more_blanks(self):
        for text, contract in TEXTS.items():
            pieces = PIECE.findall(text)
            self.assertEqual("".join(pieces), text.replace(" ", ""))
            for blanks in (" ", "  ", " " * 7):
                self.read_as(blanks.join(pieces), contract)
            for at in range(1, len(pieces)):
                self.read_as("".join(pieces[:at]) + "   " + "".join(pieces[at:]), contract)
        for seed, draw in draws(42000, 100):
            contract = drawn_contract(draw, ["rain", "sun"], draw.randint(0, 3))
            pieces = PIECE.findall(written(contract))
            spaced = [piece + " " * draw.randint(0, 3) for piece in pieces[:-1]] + pieces[-1:]
            if sum(map(len, spaced)) <= 4000:
                self.read_as("".join(spaced), contract)

    def test_twelve_deep(self):
        self.read_as("later(1, " * 11 + "none" + ")" * 11, self.later(11, NONE))
        self.read_as("later(1, " * 10 + GIVE + ")" * 10, self.later(10, give(3)))
        number, text = RAIN, "rain"
        for _ in range(10):
            number, text = ("plus", number, num(1)), f"plus({text}, 1)"
        self.read_as(f"give(ann, bob, gold, {text})", give(number))
        asked, text = above(0), "below(0, rain)"
        for _ in range(9):
            asked, text = ("not", asked), f"not({text})"
        self.read_as(f"when({text}, none)", ("when", asked, NONE))

    def later(self, times, contract):
        for _ in range(times):
            contract = ("later", 1, contract)
        return contract

    def test_as_long_as_a_text_may_be(self):
        for many in (3999, 4000):
            text = "both(none," + " " * (many - 15) + "none)"
            self.assertEqual(len(text), many)
            self.read_as(text, ("both", NONE, NONE))
        self.refused("both(none," + " " * (4001 - 15) + "none)")
        self.refused("both(none," + " " * 100000 + "none)")

    def whole(self, times, good):
        contract = give(1, good=good)
        for _ in range(times):
            contract = ("both", contract, contract)
        return contract

    def test_as_long_as_a_text_may_be_of_many_contracts(self):
        contract = ("both", self.whole(6, "o"), self.whole(5, "oooo"))
        text = written(contract)
        spare = 4000 - len(text)
        self.assertGreater(spare, 0)
        # Blanks behind the first bracket make up for what is left.
        self.read_as("both(" + " " * spare + text[5:], contract)
        self.refused("both(" + " " * (spare + 1) + text[5:])

    def test_a_written_one_that_is_too_long(self):
        contract = ("both", self.whole(7, "oooo"), self.whole(1, "oooo"))
        need_contract(contract)
        self.assertGreater(len(written(contract)), 4000)
        self.refused(written(contract))


class TestRefusals(Notes):
    def test_nothing(self):
        self.all_refused("", " ", "  ", " " * 100, " " * 4000)

    def test_other_words(self):
        self.all_refused("nothing", "non", "nones", "gives(ann, bob, gold, 3)", "gift(ann, bob, gold, 3)", "rain",
                         "num", "read", "plus", "below", "3", "-3", "0", "plus(1, 2)", "below(1, 2)", "num(3)",
                         "read(rain)", "not(none)", "all(none, none)", "or(none, none)", "and(none, none)",
                         "when(true, none)", "when(rain, none)", "when(3, none)", "when(none, none)",
                         "when(or(below(1, 2), below(1, 2)), none)", "when(above(1, 2), none)", "when(num(3), none)",
                         "when(read(rain), none)", "when(plus(1, 2), none)",
                         "if(give(ann, bob, gold, 3), none, none)", "when(not(rain), none)", "when(not(none), none)",
                         "when(below(none(), 2), none)", "when(below(below(1, 2), 2), none)",
                         "give(ann, bob, gold, num(3))", "give(ann, bob, gold, read(rain))",
                         "give(ann, bob, gold, max(1, 2))", "give(ann, bob, gold, give(ann, bob, gold, 3))",
                         "give(ann, bob, gold, below(1, 2))", "give(ann, bob, gold, not(1))",
                         "give(ann, bob, gold, rain(1))", "give(ann, bob, gold, 3(1))", "both(none, rain)",
                         "both(none, 3)", "both(none, below(1, 2))", "later(2, rain)", "later(2, 2)",
                         "later(rain, none)", "later(none, none)", "later(plus(1, 1), none)", "often(3, rain, none)",
                         "often(num, 2, none)", "turned(ann, 3, none)", "turned(-1, ann, none)",
                         "give(3, bob, gold, 3)", "give(ann, 3, gold, 3)", "give(ann, bob, 3, 3)",
                         "give(ann, bob, -3, 3)", "give(ann, plus(a, b), gold, 3)", "give(ann, bob, none(), 3)")

    def test_brackets(self):
        self.all_refused("none()", "none(", "none)", "(none)", "((none))", "give", "give()", "give(", "later",
                         "later()", "later(", "later(2", "later(2,", "later(2, ", "later(2, none", "later 2, none",
                         "later(2, none))", "later((2, none))", "later(2, (none))", "later(2, none()",
                         "later((2), none)", "later)2, none(", "later(2, none(", "(later(2, none))",
                         "later(2, none)()", "later[2, none]", "later{2, none}", "later<2, none>", "(later)(2, none)",
                         "give(ann, bob, gold, (3))", "give(ann, bob, gold, (rain))", "give(ann, bob, gold, rain())",
                         "give(ann(), bob, gold, 3)", "give((ann), bob, gold, 3)",
                         "give(ann, bob, gold, plus(rain, 3)", "give(ann, bob, gold, plus rain, 3))",
                         "give(ann, bob, gold, plus(rain, 3)))", "give(ann, bob, gold, plus)rain, 3(",
                         "when(below 1, 2, none)", "when(below(1, 2, none)", "when(below(1, 2)), none)", ")", "(",
                         "()", ")(")

    def test_commas(self):
        self.all_refused("later(2 none)", "later(2,, none)", "later(, 2, none)", "later(2, none,)",
                         "later(2, , none)", "later,(2, none)", "later(2, none),", ",later(2, none)",
                         "later(2; none)", "later(2. none)", "later(2: none)", "later(2none)", "later(2, none, )",
                         "none,", ",none", ",", ",,", "give(ann bob gold 3)", "give(ann, bob, gold 3)",
                         "give(ann bob, gold, 3)", "give(ann,, bob, gold, 3)", "give(ann, bob, gold, plus(rain 3))",
                         "give(ann, bob, gold, plus(rain,, 3))", "give(ann, bob, gold, plus(rain, 3,))",
                         "give(ann, bob, gold, plus,(rain, 3))", "both(none none)", "when(below(1 2), none)",
                         "when(below(1, 2) none)", "when(not(below(1, 2),), none)")

    def test_too_few_or_too_many_parts(self):
        self.all_refused("give(ann, bob, gold)", "give(ann, bob, 3)", "give(ann, bob, gold, 3, 3)", "both(none)",
                         "both(none, none, none)", "turned(ann, bob)", "turned(ann, none)",
                         "turned(ann, bob, carl, none)", "later(none)", "later(2)", "later(2, 3, none)",
                         "often(2, none)", "often(2, 3, 4, none)", "if(below(1, 2), none)",
                         "if(below(1, 2), none, none, none)", "when(none)", "when(below(1, 2))",
                         "when(below(1, 2), none, none)", "when(below(1), none)", "when(below(1, 2, 3), none)",
                         "when(not(below(1, 2), below(1, 2)), none)", "when(all(below(1, 2)), none)",
                         "when(any(below(1, 2), below(1, 2), below(1, 2)), none)", "give(ann, bob, gold, plus(1))",
                         "give(ann, bob, gold, plus(1, 2, 3))", "give(ann, bob, gold, most())", "when(not(), none)")

    def test_something_behind_the_contract_or_ahead_of_it(self):
        self.all_refused("none none", "nonenone", "none, none", "none 3", "none.", "none;", "none-", "none rain",
                         GIVE + GIVE, GIVE + " " + GIVE, GIVE + ", " + GIVE, GIVE + " none", "none " + GIVE,
                         GIVE + ")", GIVE + "3", GIVE + " 3", GIVE + ".", "3 " + GIVE, "-none", "+none", ". none",
                         "(" + GIVE, "later(2, none) none", "later(2, none none)", "later(2, none later(2, none))",
                         "give(ann, bob, gold, 3 4)", "give(ann, bob, gold, rain sun)",
                         "give(ann, bob, gold, 3 rain)", "give(ann bob, carl, gold, 3)", "gi ve(ann, bob, gold, 3)",
                         "no ne", "give(a nn, bob, gold, 3)", "later(1 2, none)", "give(ann, bob, gold, 1 000)")

    def test_blanks_at_the_ends(self):
        # Neither is between words, numbers and signs.
        self.all_refused(" none", "none ", "  none", "none  ", " none ", " " + GIVE, GIVE + " ", " " * 10 + GIVE)

    def test_numbers_in_another_form(self):
        for figures in ("01", "00", "007", "-01", "-00", "-0", "+1", "+0", "--1", "-", "- 1", "-  1", "- 0", "1-",
                        "1-1", "-1-", "1.0", ".5", "1e3", "1_000", "0x10", "1a", "a1", "-a", "-rain", "- rain", "+ 1",
                        "1,000", "~1", "'1'", "\"1\"", "1/1", "True", "None", "0 1", "00 1", "-+1", "+-1", "0-0"):
            self.all_refused(f"give(ann, bob, gold, {figures})", f"give(ann, bob, gold, plus({figures}, 2))",
                             f"when(below({figures}, 2), none)", f"later({figures}, none)",
                             f"often({figures}, 2, none)", f"often(2, {figures}, none)")

    def test_numbers_beyond_their_bounds(self):
        for figures in ("1000000000000", "-1000000000000", "9999999999999", "1" + "0" * 20, "-1" + "0" * 20, "9" * 3000,
                        "-" + "9" * 3000, "1" * 3900, "0" * 3900, "-" + "0" * 13):
            self.all_refused(f"give(ann, bob, gold, {figures})", f"when(below({figures}, 2), none)",
                             f"later({figures}, none)", f"often({figures}, 2, none)", f"often(2, {figures}, none)")

    def test_hours_beyond_their_bounds(self):
        for hours in (-1, -2, -99, 100, 101, 1000, BIGGEST):
            self.refused(f"later({hours}, none)")
        for times in (0, -1, 10, 11, 99, BIGGEST):
            self.refused(f"often({times}, 2, none)")
        for gap in (0, -1, 100, 101, BIGGEST):
            self.refused(f"often(2, {gap}, none)")

    def test_sides_that_are_alike(self):
        self.all_refused("give(ann, ann, gold, 3)", "turned(ann, ann, none)",
                         "both(none, give(gold, gold, gold, gold))",
                         "later(2, turned(b, b, give(ann, bob, gold, 3)))")

    def test_words_that_are_too_long(self):
        for word in ("abcdefghi", "a" * 9, "a" * 100, "a" * 3900):
            self.all_refused(f"give({word}, bob, gold, 3)", f"give(ann, {word}, gold, 3)",
                             f"give(ann, bob, {word}, 3)", f"give(ann, bob, gold, {word})",
                             f"give(ann, bob, gold, plus({word}, 1))", f"turned({word}, bob, none)",
                             f"turned(ann, {word}, none)", f"when(below(1, {word}), none)",
                             word)
        self.read_as("give(abcdefgh, bob, abcdefgh, abcdefgh)",
                     give(("read", "abcdefgh"), "abcdefgh", "bob", "abcdefgh"))

    def test_capitals(self):
        self.all_refused("None", "NONE", "nonE", "Give(ann, bob, gold, 3)", "GIVE(ANN, BOB, GOLD, 3)",
                         "give(Ann, bob, gold, 3)", "give(ann, boB, gold, 3)", "give(ann, bob, gOld, 3)",
                         "give(ann, bob, gold, Rain)", "give(ann, bob, gold, Plus(1, 2))", "when(Below(1, 2), none)",
                         "when(NOT(below(1, 2)), none)")

    def test_other_signs(self):
        for sign in ("\t", "\n", "\r", "\r\n", "\x0b", "\x0c", "\x00", "\x1c", "\x85", "\xa0", "\u2003", "\u2028",
                     "\u3000", "\ufeff", "\u200b", "_", ".", ";", ":", "'", "\"", "!", "*", "+", "=", "#", "\\", "/",
                     "\u2212", "\u2013"):
            self.all_refused(sign, "none" + sign, sign + "none", "later(2," + sign + "none)",
                             "later(2" + sign + ", none)", "later" + sign + "(2, none)", "later(" + sign + "2, none)",
                             "later(2, none" + sign + ")", "give(a" + sign + "n, bob, gold, 3)",
                             "give(ann, bob, gold, " + sign + "3)", "give(ann, bob, gold, 3" + sign + ")")

    def test_letters_of_other_alphabets(self):
        for letter in ("\xe9", "\xe4", "\xdf", "\xf1", "\u03b1", "\u0430", "\uff41", "\xaa", "\u0131", "\u017f",
                       "a\u0301", "\u6f22"):
            self.all_refused(f"give({letter}, bob, gold, 3)", f"give(a{letter}, bob, gold, 3)",
                             f"give(ann, bob, {letter}, 3)", f"give(ann, bob, gold, {letter})",
                             f"turned(ann, {letter}, none)", letter)
        self.all_refused("n\u043ene", "non\u0435", "g\u0456ve(ann, bob, gold, 3)")

    def test_figures_of_other_alphabets(self):
        for figure in ("\u0663", "\u0967", "\uff13", "\xb2", "\xb3", "\u2083", "\u2460", "\u00bd", "\u4e09",
                       "\U0001d7d1"):
            self.all_refused(f"give(ann, bob, gold, {figure})", f"give(ann, bob, gold, 1{figure})",
                             f"give(ann, bob, gold, -{figure})", f"later({figure}, none)", f"often(2, {figure}, none)")
        self.all_refused("later\uff082, none)", "later(2\uff0c none)")

    def test_too_deep(self):
        for times in (12, 13, 20, 100, 400):
            self.refused("later(1," * times + "none" + ")" * times)
        for times in (11, 12, 100):
            self.refused("later(1, " * times + GIVE + ")" * times)
            self.refused("give(ann, bob, gold, " + "plus(1," * times + "rain" + ")" * times + ")")
            self.refused("when(" + "not(" * times + "below(1, 2)" + ")" * times + ", none)")
            self.refused("turned(a,b," * times + GIVE + ")" * times)
        self.refused("when(" + "not(" * 10 + "below(1, 2)" + ")" * 10 + ", none)")
        # Without what would end them they are refused, too.
        self.all_refused("later(1," * 499, "not(" * 999, "both(" * 799, "(" * 4000, "plus(" * 800, "-" * 4000,
                         "," * 4000)

    def test_one_sign_less_or_another_one(self):
        for text in TEXTS:
            for at, sign in enumerate(text):
                if sign in "(),":
                    with self.subTest(text=text, at=at):
                        self.refused(text[:at] + text[at + 1:])
                        self.refused(text[:at] + sign + text[at:])
                        self.refused(text[:at] + "()," [("(),".index(sign) + 1) % 3] + text[at + 1:])
            for at in range(1, len(text)):
                self.refused(text[:at])


class TestWhatIsHandedIn(Notes):
    def test_it_is_answered_alike_each_time(self):
        for text, contract in TEXTS.items():
            self.assertEqual(written(contract), written(copy.deepcopy(contract)))
            self.assertEqual(read(text), read(text))
            self.refused(text + ")")
            self.assertEqual(read(text), contract)

    def test_other_words_one_for_one(self):
        exchange = {"ann": "both", "bob": "ann", "gold": "none", "rain": "give", "sun": "later"}
        for text, contract in TEXTS.items():
            told = self.with_other_words(contract, exchange)
            other = PIECE.sub(lambda piece: exchange.get(piece.group(), piece.group()), text)
            self.assertEqual(written(told), other)
            self.read_as(other, told)

    def with_other_words(self, told, exchange):
        return (told[0],) + tuple(
            self.with_other_words(part, exchange) if isinstance(part, tuple) else exchange.get(part, part)
            for part in told[1:])


class TestInterface(Notes):
    def test_the_arguments_have_their_names(self):
        self.assertEqual(written(contract=NONE), "none")
        self.assertEqual(read(text="none"), NONE)

    def test_both_are_defined_in_their_file(self):
        self.assertEqual(file.written.__module__, "contractbook.notes")
        self.assertEqual(file.read.__module__, "contractbook.notes")


if __name__ == "__main__":
    unittest.main()
