"""What the document says of meaning, namings and clashes, word by word and without any haste."""

import itertools


class Walk:
    """What a term's tree tells: lists for its nodes, binders and uses, in order."""

    def __init__(self, term):
        self.names = []
        self.around = []
        self.uses = []
        self.go(term.tree(), [])
        self.binders = range(len(self.names))
        self.meant = [self.meaning_of(name, around) for name, around in self.uses]
        self.free = sorted({meant for meant in self.meant if isinstance(meant, str)}, key=lambda x: (len(x), x))
        # The binders within each binder are those whose own nodes are within it.
        self.outside = [around for around, is_binder in self.around if is_binder]
        self.lives = [self.find_live(binder) for binder in self.binders]
        self.clashing = [(one, other) for other in self.binders for one in self.lives[other]]

    def go(self, tree, around):
        self.around.append((list(around), tree[0] == "bind"))
        if tree[0] == "use":
            self.uses.append((tree[1], list(around)))
        elif tree[0] == "join":
            for part in tree[2]:
                self.go(part, around)
        else:
            number = len(self.names)
            self.names.append(tree[1])
            for part in tree[2]:
                self.go(part, around)
            self.go(tree[3], around + [number])

    def meaning_of(self, name, around):
        return max([binder for binder in around if self.names[binder] == name], default=name)

    def find_live(self, binder):
        meant = {self.meant[use] for use, (_, around) in enumerate(self.uses) if binder in around}
        binders = sorted(one for one in meant if isinstance(one, int) and one in self.outside[binder])
        return binders + [name for name in self.free if name in meant]

    def name_by(self, naming, one):
        return naming[one] if isinstance(one, int) else one

    def live_at(self, binder):
        return list(self.lives[binder])

    def hurt(self, naming):
        return [(one, other) for one, other in self.clashing if self.name_by(naming, one) == naming[other]]

    def catches(self, naming):
        found = []
        for use, (_, around) in enumerate(self.uses):
            meant = self.meant[use]
            for binder in around:
                within = isinstance(meant, str) or meant in self.outside[binder]
                if within and naming[binder] == self.name_by(naming, meant):
                    found.append((use, binder, meant))
        return found

    def is_right(self, naming):
        """Whether each use, by its written name, means what it meant."""
        for use, (_, around) in enumerate(self.uses):
            name = self.name_by(naming, self.meant[use])
            if max([binder for binder in around if naming[binder] == name], default=name) != self.meant[use]:
                return False
        return True

    def all_namings(self, pool):
        return list(itertools.product(pool, repeat=len(self.names)))

    def right_namings(self, pool):
        return [naming for naming in self.all_namings(pool) if self.is_right(naming)]

    def clash(self, one, other):
        return (one, other) in self.clashing or (other, one) in self.clashing
