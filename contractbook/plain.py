"""The plain parts of what is handed in: words and whole numbers."""

LETTERS = "abcdefghijklmnopqrstuvwxyz"
LONGEST_WORD = 8
TOO_LARGE = 10 ** 12


def is_word(told):
    """Whether this is a text of one to eight small letters a to z."""
    if not isinstance(told, str) or not 1 <= len(told) <= LONGEST_WORD:
        return False
    return all(letter in LETTERS for letter in told)


def is_whole(told):
    """Whether this is a whole number."""
    # Python counts True and False among its integers, the document does not.
    return isinstance(told, int) and not isinstance(told, bool)


def is_between(told, low, high):
    """Whether this is a whole number from low to high."""
    return is_whole(told) and low <= told <= high


def is_amount(told):
    """Whether this is a whole number that may be written in a contract."""
    return is_whole(told) and -TOO_LARGE < told < TOO_LARGE
