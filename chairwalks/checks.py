"""Tests that the whole package uses for values that may be anything."""


def is_number(value, least, most):
    """Tell whether a value is a number from least to most."""
    if isinstance(value, bool) or not isinstance(value, int):
        return False
    return least <= value <= most


def are_numbers(value, most):
    """Tell whether a value is a tuple, of any length, of numbers from 0 to most."""
    if not isinstance(value, tuple):
        return False
    return all([is_number(item, 0, most) for item in value])
