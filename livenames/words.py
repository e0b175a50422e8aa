"""Which values are names, and which are numbers."""

LONGEST_NAME = 8


def is_name(value):
    """Whether any value is a name: a text of one to eight small letters."""
    if not isinstance(value, str) or len(value) > LONGEST_NAME:
        return False
    return value.isascii() and value.isalpha() and value.islower()


def is_number(value):
    """Whether any value is a number, which True and False are not."""
    return isinstance(value, int) and not isinstance(value, bool)


def is_number_below(value, most):
    """Whether any value is a number from 0 to one less than the most."""
    return is_number(value) and 0 <= value < most
