"""What counts as a number, for all files of the package."""


def is_between(value, low, high):
    """Tell whether a value is an integer from low to high."""
    # Python takes True and False for integers; the package does not.
    return isinstance(value, int) and not isinstance(value, bool) and low <= value <= high
