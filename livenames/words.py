"""Which values are names, and which are numbers."""

LONGEST_NAME = 8
LETTERS = "abcdefghijklmnopqrstuvwxyz"


def is_name(value):
    """Whether any value is a name: a text of one to eight small letters."""
    return isinstance(value, str) and len(value) <= LONGEST_NAME and are_letters(value)


def are_all_names(values):
    """Whether all values of a list or tuple are names."""
    for value in values:
        if not isinstance(value, str) or not 0 < len(value) <= LONGEST_NAME:
            return False
    # All of them together are letters just if each is; asked once, this is quicker.
    return len(values) == 0 or are_letters("".join(values))


def are_letters(text):
    """Whether a text is made of small letters, one at least."""
    return text.isalpha() and text.islower() and text.isascii()


def is_number(value):
    """Whether any value is a number, which True and False are not."""
    return isinstance(value, int) and not isinstance(value, bool)


def is_number_below(value, most):
    """Whether any value is a number from 0 to one less than the most."""
    return isinstance(value, int) and not isinstance(value, bool) and 0 <= value < most


def first_names(many, barred):
    """The list of so many first names, in order, that are not among the barred ones."""
    taken = {name: True for name in barred}
    # Each barred name takes away one name at most.
    names = [name_with(number) for number in range(many + len(taken))]
    return [name for name in names if name not in taken][:many]


def name_with(number):
    """The name with a number, from 0 on, of all names in order."""
    if number < len(LETTERS):
        return LETTERS[number]
    # There is no letter for nought: z is followed by aa.
    before, place = divmod(number - len(LETTERS), len(LETTERS))
    return name_with(before) + LETTERS[place]
