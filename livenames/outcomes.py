"""Terms that come of others, with as many old names of binders as can be."""

from livenames.keeping import naming_that_keeps
from livenames.terms import Term
from livenames.walks import names_of
from livenames.writing import catches, written


class Outcome:
    """What comes of other terms: a term by own names, by which each use means what it should, and the old names."""

    def __init__(self, tree, olds):
        """Made of the tree by own names, and a dict from these to the old ones."""
        self.term = Term(tree)
        self.old = tuple([olds[name] for name in names_of(self.term)])

    def naming(self):
        """The tuple of names that keeps as many old ones as can be."""
        return naming_that_keeps(self.term, self.old, [1] * len(self.old), self.old)

    def told_term(self):
        """The Term that is written by this naming."""
        return written(self.term, self.naming())

    def renamed(self):
        """The list of the binders that do not keep their old names, ascending."""
        return [binder for binder, name in enumerate(self.naming()) if name != self.old[binder]]

    def old_catches(self):
        """The catches of the naming by the old names."""
        return catches(self.term, self.old)
