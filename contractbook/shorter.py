"""Contracts told shorter."""

from contractbook.contracts import NONE, contracts_in, turned_side, with_contracts
from contractbook.plain import is_amount
from contractbook.seen import holds, names_in, reckoned

LONGEST_WAIT = 99


def shorter(contract):
    """A contract that owes the same in all rows, told by no more contracts."""
    # Each rule gives back a part that is as short as may be, so that with the inner ones first no rule applies anew.
    inner = [shorter(part) for part in contracts_in(contract)]
    return _outer_shorter(with_contracts(contract, inner))


def _outer_shorter(contract):
    """The same for a contract in which all that stands within is as short as may be."""
    word = contract[0]
    if word == "none":
        return NONE
    if word == "give":
        return _give_shorter(contract)
    if word == "both":
        return _both_shorter(contract)
    if word == "if":
        return _if_shorter(contract)
    if contract[-1] == NONE:
        return NONE
    if word == "turned":
        return _turned_shorter(contract)
    if word == "later":
        return _later_shorter(contract)
    if word == "often":
        return contract[3] if contract[1] == 1 else contract
    sure = _sure(contract[1])
    if sure is None:
        return contract
    begins = sure if word == "when" else not sure
    return contract[2] if begins else NONE


def _give_shorter(give):
    """A give with what is reckoned of written numbers written."""
    number = _number_shorter(give[4])
    if number == ("num", 0):
        return NONE
    return give[:4] + (number,)


def _number_shorter(told):
    """A number with what is reckoned of written numbers written, as far as it may be written."""
    if told[0] in ("num", "read"):
        return told
    word, first, second = told[0], _number_shorter(told[1]), _number_shorter(told[2])
    if first[0] == "num" and second[0] == "num":
        number = reckoned(word, first[1], second[1])
        if is_amount(number):
            return ("num", number)
    return (word, first, second)


def _both_shorter(contract):
    """Two contracts, or the other one where one is none."""
    if contract[1] == NONE:
        return contract[2]
    if contract[2] == NONE:
        return contract[1]
    return contract


def _if_shorter(contract):
    """The contract that is sure to begin, or one where both are alike, or the choice."""
    sure = _sure(contract[1])
    if sure is None and contract[2] != contract[3]:
        return contract
    return contract[3] if sure is False else contract[2]


def _turned_shorter(contract):
    """A contract with two sides turned, which may be turned straight, or back."""
    word, one, other, inner = contract
    if inner[0] == "give":
        return ("give", turned_side(inner[1], one, other), turned_side(inner[2], one, other)) + inner[3:]
    if inner[0] == "turned" and inner[1:3] in ((one, other), (other, one)):
        return inner[3]
    return contract


def _later_shorter(contract):
    """A contract that begins later, with all hours together where these may be written."""
    word, hours, inner = contract
    # Less than nought is not within what a contract may tell, but it begins no earlier than now.
    if hours < 1:
        return inner
    if inner[0] == "later" and hours + inner[1] <= LONGEST_WAIT:
        return ("later", hours + inner[1], inner[2])
    return contract


def _sure(asked):
    """True or False where a condition is sure to hold or to fail by written numbers, else None."""
    word = asked[0]
    if word == "below":
        return None if names_in(asked) else holds(asked, {})
    if word == "not":
        sure = _sure(asked[1])
        return None if sure is None else not sure
    first, second = _sure(asked[1]), _sure(asked[2])
    # One that fails is enough for all to fail, one that holds for any to hold.
    enough = word == "any"
    if first is None or second is None:
        return enough if enough in (first, second) else None
    return first and second if word == "all" else first or second
