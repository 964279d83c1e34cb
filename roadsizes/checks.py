"""What several files ask of any value."""

GREATEST_BODY = 10 ** 18
DIGITS = "0123456789"
MOST_DIGITS = 60


def is_integer(value):
    # A bool is an int for Python, but no integer here.
    return isinstance(value, int) and not isinstance(value, bool)


def is_within(value, least, greatest):
    """Whether any value is an integer from least to greatest."""
    return is_integer(value) and least <= value <= greatest


def is_body(value):
    return is_within(value, 0, GREATEST_BODY)


def written_integer(word):
    """The integer that a word writes in at most 60 digits, without leading zeros and signs, or None."""
    if not 1 <= len(word) <= MOST_DIGITS or not all([digit in DIGITS for digit in word]):
        return None
    if word[0] == "0" and len(word) > 1:
        return None
    return int(word)
