"""Ways from one naming to another one, by single renamings."""

from livenames.counting import need_pool, need_right_from
from livenames.errors import NoPool, TooMany
from livenames.places import live_parts
from livenames.walks import free_names
from livenames.words import is_name, is_number_below
from livenames.writing import hurts_nothing

MOST_TO_LEAD = 10


def is_enough(term, pool):
    """Whether a pool has all free names of a term, and two more names for each binder than are live at it."""
    need_pool(term, pool)
    if not all([name in pool for name in free_names(term)]):
        return False
    return all([len(pool) >= len(binders) + len(free) + 2 for binders, free in live_parts(term)])


def is_way(term, pool, one, other, steps):
    """Whether any value is a list of steps from one naming to another one, all in a pool."""
    need_pool(term, pool)
    need_right_from(term, pool, one)
    need_right_from(term, pool, other)
    if not isinstance(steps, list):
        return False
    naming = list(one)
    for step in steps:
        if not is_step(pool, naming, step):
            return False
        binder, name = step
        naming[binder] = name
        if not hurts_nothing(term, naming):
            return False
    return naming == list(other)


def lead(term, pool, one, other):
    """A way from one naming to another one, in a pool that is enough."""
    if not is_enough(term, pool):
        raise NoPool(pool)
    need_right_from(term, pool, one)
    need_right_from(term, pool, other)
    if len(one) > MOST_TO_LEAD:
        raise TooMany(MOST_TO_LEAD)
    steps = []
    for binder, live in enumerate(live_parts(term)):
        steps = steps_past(steps, binder, live, pool, one)
        # Behind these steps all that are live at it have their names by the other naming.
        if dict(steps).get(binder, one[binder]) != other[binder]:
            steps.append((binder, other[binder]))
    return steps


def is_step(pool, naming, value):
    """Whether any value is a pair of a binder and a name in a pool that it does not have by a naming."""
    if not isinstance(value, tuple) or len(value) != 2:
        return False
    binder, name = value
    return is_number_below(binder, len(naming)) and is_name(name) and name in pool and name != naming[binder]


def steps_past(steps, binder, live, pool, one):
    """The list of the steps of binders ahead of one, and of steps by which it makes room for them."""
    binders, _ = live
    naming = list(one)
    longer = []
    for moved, name in steps:
        if moved in binders and name == naming[binder]:
            # Two names of the pool at least are left for it, of which this is one.
            left = [other for other in names_left(pool, live, naming) if other != name]
            naming[binder] = left[0]
            longer.append((binder, left[0]))
        naming[moved] = name
        longer.append((moved, name))
    return longer


def names_left(pool, live, naming):
    """The list of the names of a pool, in its order, that nothing live has: a pair of binders and free names."""
    binders, free = live
    taken = free + [naming[binder] for binder in binders]
    return [name for name in pool if name not in taken]
