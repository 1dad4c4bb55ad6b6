"""Parts of contracts: what is given of one good, or by and to one side, and which goods and sides there are."""

from contractbook.contracts import NONE, contracts_in, turned_side, with_contracts


def of_good(contract, good):
    """The contract in which each give of another good is none."""
    if contract[0] == "give":
        return contract if contract[3] == good else NONE
    return with_contracts(contract, [of_good(inner, good) for inner in contracts_in(contract)])


def of_side(contract, side):
    """The contract in which each give that is neither by nor to the side is none."""
    if contract[0] == "give":
        return contract if side in (contract[1], contract[2]) else NONE
    within = side
    if contract[0] == "turned":
        within = turned_side(side, contract[1], contract[2])
    return with_contracts(contract, [of_side(inner, within) for inner in contracts_in(contract)])


def goods_of(contract):
    """The goods of all gives, ascending, each once."""
    return sorted({good for one, other, good in _places_of(contract)})


def sides_of(contract):
    """The sides of all gives, ascending, each once."""
    return sorted({side for one, other, good in _places_of(contract) for side in (one, other)})


def _places_of(contract):
    """Who gives whom which good, by all gives."""
    if contract[0] == "give":
        return [contract[1:4]]
    places = [place for inner in contracts_in(contract) for place in _places_of(inner)]
    if contract[0] != "turned":
        return places
    first, second = contract[1], contract[2]
    return [
        (turned_side(one, first, second), turned_side(other, first, second), good)
        for one, other, good in places
    ]
