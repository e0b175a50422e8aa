"""How many right namings there are from a pool of names, and the number of each."""

from livenames.errors import NoNames, NoNumber, NoPool
from livenames.places import live_parts
from livenames.terms import need_term
from livenames.words import are_all_names, is_number_below
from livenames.writing import need_right

MOST_IN_A_POOL = 60


def is_pool(value):
    """Whether any value is a list or tuple of up to sixty unlike names."""
    if not isinstance(value, (list, tuple)) or len(value) > MOST_IN_A_POOL:
        return False
    return are_all_names(value) and len(set(value)) == len(value)


def how_many(term, pool):
    """How many right namings from a pool there are."""
    need_pool(term, pool)
    many = 1
    for room in rooms_in(pool, places_taken(term, pool)):
        many *= room
    return many


def all_namings(term, pool):
    """A generator of all right namings from a pool, in order."""
    need_pool(term, pool)
    lives = [(binders, [name for name in pool if name not in free]) for binders, free in live_parts(term)]
    waiting = [()]
    if len(lives) == 0:
        yield ()
    if len(lives) == 0 or 0 in rooms_in(pool, places_taken(term, pool)):
        # Otherwise great terms would go through all beginnings of namings, which end far down.
        waiting.clear()
    while waiting:
        begun = waiting.pop()
        binders, names = lives[len(begun)]
        taken = [begun[binder] for binder in binders]
        if len(begun) + 1 == len(lives):
            for name in names:
                if name not in taken:
                    yield begun + (name,)
        else:
            # The first name goes on top, as it is taken next.
            waiting.extend([begun + (name,) for name in names[::-1] if name not in taken])


def naming_at(term, pool, number):
    """The right naming from a pool that has a number, from 0 on."""
    if not is_number_below(number, how_many(term, pool)):
        raise NoNumber(number)
    taken = places_taken(term, pool)
    left = number
    numbers = []
    for room in rooms_in(pool, taken)[::-1]:
        left, among = divmod(left, room)
        numbers.append(among)
    places = []
    for (binders, free), among in zip(taken, numbers[::-1]):
        places.append(place_among_left(among, free + [places[binder] for binder in binders]))
    return tuple([pool[place] for place in places])


def number_of(term, pool, names):
    """The number, from 0 on, of a right naming from a pool."""
    need_pool(term, pool)
    need_right_from(term, pool, names)
    taken = places_taken(term, pool)
    places = [pool.index(name) for name in names]
    number = 0
    for place, (binders, free), room in zip(places, taken, rooms_in(pool, taken)):
        others = free + [places[binder] for binder in binders]
        number = number * room + place - len([other for other in others if other < place])
    return number


def need_pool(term, value):
    """Raises NoPool for any value that is no pool."""
    need_term(term)
    if not is_pool(value):
        raise NoPool(value)


def need_right_from(term, pool, value):
    """Raises NoNames for any value that is no right naming of a term from a pool."""
    need_right(term, value)
    if not all([name in pool for name in value]):
        raise NoNames(value)


def places_taken(term, pool):
    """For each binder the pair of the binders live at it and the places in a pool of the free names live at it."""
    places = {name: place for place, name in enumerate(pool)}
    return [(binders, [places[name] for name in free if name in places]) for binders, free in live_parts(term)]


def rooms_in(pool, taken):
    """For each binder how many names of a pool are left for it, whatever right names are live at it."""
    # All that are live at one binder clash with one another, so that each takes another name.
    return [max(0, len(pool) - len(binders) - len(free)) for binders, free in taken]


def place_among_left(among, taken):
    """The place in a pool of a name that has a place among those that are not at the taken places."""
    place = among
    for other in sorted(taken):
        if other <= place:
            place += 1
    return place
