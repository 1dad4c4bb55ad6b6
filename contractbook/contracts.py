"""What a contract is, and of how many contracts it is made."""

from contractbook.errors import BadContract
from contractbook.plain import is_amount, is_between, is_word

DEEPEST = 12

NONE = ("none",)

# Each form by its word: the kinds of the parts that follow the word.
NUMBERS = {
    "num": ("amount",),
    "read": ("name",),
    "plus": ("number", "number"),
    "minus": ("number", "number"),
    "times": ("number", "number"),
    "most": ("number", "number"),
    "least": ("number", "number"),
}
CONDITIONS = {
    "below": ("number", "number"),
    "not": ("condition",),
    "all": ("condition", "condition"),
    "any": ("condition", "condition"),
}
CONTRACTS = {
    "none": (),
    "give": ("side", "side", "good", "number"),
    "both": ("contract", "contract"),
    "turned": ("side", "side", "contract"),
    "later": ("wait", "contract"),
    "often": ("times", "gap", "contract"),
    "if": ("condition", "contract", "contract"),
    "when": ("condition", "contract"),
    "until": ("condition", "contract"),
}


def need_contract(contract):
    """Refuse with BadContract what is no contract."""
    _need_form(contract, "contract", 1)


def size_of(contract):
    """How many contracts there are: this one and all within."""
    count = 0
    waiting = [contract]
    while waiting:
        inner = contracts_in(waiting.pop())
        waiting.extend(inner)
        count += 1
    return count


def contracts_in(contract):
    """The contracts that stand directly within this one."""
    kinds = CONTRACTS[contract[0]]
    return [part for kind, part in zip(kinds, contract[1:]) if kind == "contract"]


def with_contracts(contract, inner):
    """This contract with others in the place of those that stand directly within it."""
    # In each form they stand behind all else.
    return contract[:len(contract) - len(inner)] + tuple(inner)


def turned_side(side, one, other):
    """The side that stands in the place of this one where two sides are in one another's place."""
    if side == one:
        return other
    if side == other:
        return one
    return side


def kinds_behind(word, kind):
    """The kinds of the parts behind a word, or None where nothing of this kind has the word."""
    if kind == "contract":
        return CONTRACTS.get(word)
    if kind == "condition":
        return CONDITIONS.get(word)
    return NUMBERS.get(word)


def _need_form(told, kind, depth):
    """Refuse what is no contract, condition or number, as the kind says, that stands so deep."""
    # The depth is looked at first, so that nothing, however deep, is followed further down.
    if depth > DEEPEST:
        raise BadContract("a contract is at most twelve deep")
    # No message shows what was handed in: it may be too large to be shown.
    if not isinstance(told, tuple) or len(told) == 0 or not isinstance(told[0], str):
        raise BadContract(f"a {kind} is a tuple that begins with its word")
    kinds = kinds_behind(told[0], kind)
    if kinds is None:
        raise BadContract(f"no {kind} begins with this word")
    if len(told) != len(kinds) + 1:
        raise BadContract(f"a {kind} of this word has another count of parts")
    for inner, part in zip(kinds, told[1:]):
        if inner in ("contract", "condition", "number"):
            _need_form(part, inner, depth + 1)
        elif not _is_plain(part, inner):
            raise BadContract(f"this is no {inner}")
    if kinds[:2] == ("side", "side") and told[1] == told[2]:
        raise BadContract("one and other are two sides")


def _is_plain(told, kind):
    """Whether this is a plain part of a kind: a number within its bounds, or a word."""
    if kind == "amount":
        return is_amount(told)
    if kind == "wait":
        return is_between(told, 0, 99)
    if kind == "times":
        return is_between(told, 1, 9)
    if kind == "gap":
        return is_between(told, 1, 99)
    return is_word(told)
