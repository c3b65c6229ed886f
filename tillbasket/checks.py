"""Questions about single values that several files ask."""

LONGEST_NAME = 8


def is_whole(value, least, most):
    """Tell whether this is a whole number from least to most."""
    # Python counts True and False among its int numbers, the document does not.
    if not isinstance(value, int) or isinstance(value, bool):
        return False
    return least <= value <= most


def is_name(value):
    """Tell whether this is a text of 1 to 8 signs from a to z."""
    if not isinstance(value, str) or not 1 <= len(value) <= LONGEST_NAME:
        return False
    return all("a" <= sign <= "z" for sign in value)


def is_pair(value):
    """Tell whether this is a tuple of two."""
    return isinstance(value, tuple) and len(value) == 2
