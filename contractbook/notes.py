"""Contracts as texts."""

from contractbook.contracts import DEEPEST, kinds_behind, need_contract
from contractbook.errors import BadContract, BadText
from contractbook.plain import is_word

LONGEST_TEXT = 4000
FIGURES = "0123456789"
# A number of more figures is too large for all that a contract may tell.
MOST_FIGURES = 12


def written(contract):
    """A contract as a text."""
    return _written(contract)


def read(text):
    """The contract that a text tells."""
    if len(text) > LONGEST_TEXT:
        raise BadText("a text has at most 4,000 signs")
    pieces = Pieces(text)
    contract = _read_form(pieces, "contract", 1)
    if not pieces.are_over():
        raise BadText("something stands behind the contract")
    try:
        need_contract(contract)
    except BadContract as error:
        raise BadText(str(error)) from None
    return contract


class Pieces:
    """The words, numbers, brackets and commas of a text, which are taken one by one."""

    def __init__(self, text):
        self._left = _pieces_of(text)[::-1]

    def are_over(self):
        """Whether all were taken."""
        return len(self._left) == 0

    def open_next(self):
        """Whether the next one is a bracket that opens."""
        return len(self._left) > 0 and self._left[-1] == "("

    def take(self):
        """The next one."""
        if len(self._left) == 0:
            raise BadText("the text ends within the contract")
        return self._left.pop()

    def pass_over(self, sign):
        """Take the next one, which must be this sign."""
        if self.take() != sign:
            raise BadText(f"the sign {sign} is missing")


def _pieces_of(text):
    """The words, numbers, brackets and commas of a text."""
    if text.startswith(" ") or text.endswith(" "):
        raise BadText("blanks stand between words, numbers and signs alone")
    for sign in "(),":
        text = text.replace(sign, f" {sign} ")
    return [piece for piece in text.split(" ") if piece != ""]


def _read_form(pieces, kind, depth):
    """The contract, condition or number that stands next, so deep within."""
    # The depth is looked at first, so that no text, however deep, is followed further down.
    if depth > DEEPEST:
        raise BadText("a contract is at most twelve deep")
    word = pieces.take()
    if kind == "number" and not pieces.open_next():
        return ("read", word) if is_word(word) else ("num", _read_figures(word))
    kinds = kinds_behind(word, kind)
    # What is read and what is written in figures have a word in a contract, but none in a text.
    if kinds is None or word in ("num", "read"):
        raise BadText(f"no {kind} begins with this word")
    parts = []
    for at, inner in enumerate(kinds):
        pieces.pass_over("," if at > 0 else "(")
        parts.append(_read_part(pieces, inner, depth + 1))
    if len(kinds) > 0:
        pieces.pass_over(")")
    return (word, *parts)


def _read_part(pieces, kind, depth):
    """What stands next within a contract, condition or number."""
    if kind in ("contract", "condition", "number"):
        return _read_form(pieces, kind, depth)
    if kind in ("wait", "times", "gap"):
        return _read_figures(pieces.take())
    # Whether this is a word is told with the whole contract.
    return pieces.take()


def _read_figures(piece):
    """The number that is written in figures."""
    figures = piece.removeprefix("-")
    if not 1 <= len(figures) <= MOST_FIGURES or not all([figure in FIGURES for figure in figures]):
        raise BadText("this is no number")
    if figures[0] == "0" and piece != "0":
        raise BadText("no nought stands ahead of other figures, and no - ahead of nought alone")
    return int(piece)


def _written(told):
    """A contract, a condition, a number, or a plain part of one, as a text."""
    if not isinstance(told, tuple):
        return str(told)
    if told[0] in ("num", "read"):
        return str(told[1])
    if len(told) == 1:
        return told[0]
    parts = [_written(part) for part in told[1:]]
    return told[0] + "(" + ", ".join(parts) + ")"
