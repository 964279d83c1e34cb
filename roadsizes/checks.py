"""What several files ask of any value."""

GREATEST_BODY = 10 ** 18


def is_within(value, least, greatest):
    """Whether any value is an integer from least to greatest."""
    # A bool is an int for Python, but no integer here.
    if isinstance(value, bool) or not isinstance(value, int):
        return False
    return least <= value <= greatest


def is_body(value):
    return is_within(value, 0, GREATEST_BODY)
