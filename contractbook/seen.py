"""What numbers and conditions come to by what is read at an hour."""


def reckoned(word, first, second):
    """What one of the words for two numbers makes of them."""
    if word == "plus":
        return first + second
    if word == "minus":
        return first - second
    if word == "times":
        return first * second
    if word == "most":
        return max(first, second)
    return min(first, second)


def number_of(told, row):
    """What a number comes to by this row."""
    word = told[0]
    if word == "num":
        return told[1]
    if word == "read":
        return row[told[1]]
    return reckoned(word, number_of(told[1], row), number_of(told[2], row))


def holds(asked, row):
    """Whether a condition holds by this row."""
    word = asked[0]
    if word == "below":
        return number_of(asked[1], row) < number_of(asked[2], row)
    if word == "not":
        return not holds(asked[1], row)
    if word == "all":
        return holds(asked[1], row) and holds(asked[2], row)
    return holds(asked[1], row) or holds(asked[2], row)


def names_in(told):
    """The names that a number or a condition reads, ascending, each once."""
    if told[0] == "read":
        return [told[1]]
    inner = [names_in(part) for part in told[1:] if isinstance(part, tuple)]
    return sorted({name for names in inner for name in names})
