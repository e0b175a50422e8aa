"""Which values are names, and which are numbers."""

LONGEST_NAME = 8
LETTERS = "abcdefghijklmnopqrstuvwxyz"


def is_name(value):
    """Whether any value is a name: a text of one to eight small letters."""
    if not isinstance(value, str) or len(value) > LONGEST_NAME:
        return False
    return value.isascii() and value.isalpha() and value.islower()


def is_number(value):
    """Whether any value is a number, which True and False are not."""
    return isinstance(value, int) and not isinstance(value, bool)


def is_number_below(value, most):
    """Whether any value is a number from 0 to one less than the most."""
    return is_number(value) and 0 <= value < most


def first_names(many, barred):
    """The list of so many first names, in order, that are not among the barred ones."""
    taken = {name: True for name in barred}
    # Each barred name takes away one name at most.
    names = [name_with(number) for number in range(many + len(taken))]
    return [name for name in names if name not in taken][:many]


def name_with(number):
    """The name with a number, from 0 on, of all names in order."""
    name = ""
    left = number + 1
    while left > 0:
        # There is no letter for nought: z is followed by aa.
        left, place = divmod(left - 1, len(LETTERS))
        name = LETTERS[place] + name
    return name
