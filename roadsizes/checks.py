"""What several files ask of any value."""

GREATEST_BODY = 10 ** 18


def is_integer(value):
    # A bool is an int for Python, but no integer here.
    return isinstance(value, int) and not isinstance(value, bool)


def is_within(value, least, greatest):
    """Whether any value is an integer from least to greatest."""
    return is_integer(value) and least <= value <= greatest


def is_body(value):
    return is_within(value, 0, GREATEST_BODY)
