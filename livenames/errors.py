"""The errors of the package, each with the value that it is about."""


class BinderError(ValueError):
    """What all errors about a wrong value are."""


class NoTerm(BinderError):
    """A value is no term."""

    def __init__(self, told):
        self.told = told


class NoNode(BinderError):
    """A value is not the number of a node."""

    def __init__(self, index):
        self.index = index


class NoBinder(BinderError):
    """A value is not the number of a binder that is asked for."""

    def __init__(self, binder):
        self.binder = binder


class NoUse(BinderError):
    """A value is not the number of a use."""

    def __init__(self, number):
        self.number = number


class NoNames(BinderError):
    """A value is not such names as are asked for."""

    def __init__(self, names):
        self.names = names


class NoPool(BinderError):
    """A value is no pool that will do."""

    def __init__(self, pool):
        self.pool = pool


class NoNumber(BinderError):
    """A value is not the number of a naming."""

    def __init__(self, value):
        self.value = value


class NoWishes(BinderError):
    """A value is not the wishes for a term's binders."""

    def __init__(self, wishes):
        self.wishes = wishes


class NoWeights(BinderError):
    """A value is not the weights of a term's binders."""

    def __init__(self, weights):
        self.weights = weights


class NoForm(BinderError):
    """A value is no numbered form."""

    def __init__(self, form):
        self.form = form


class NoLinks(BinderError):
    """A value is not the links of a guest."""

    def __init__(self, links):
        self.links = links


class NothingBack(BinderError):
    """There is nothing that can be taken back."""

    def __init__(self, many):
        self.many = many


class NoNote(BinderError):
    """A value is not what can be read."""

    def __init__(self, line):
        self.line = line


class TooMany(OverflowError):
    """There is more than the most that is allowed."""

    def __init__(self, most):
        self.most = most
