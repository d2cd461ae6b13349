"""A test that the whole package uses for values that may be anything."""


def is_number(value, least, most):
    """Tell whether a value is a number from least to most."""
    if isinstance(value, bool) or not isinstance(value, int):
        return False
    return least <= value <= most
