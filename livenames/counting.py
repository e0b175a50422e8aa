"""How many right namings there are from a pool of names, and the number of each."""

from livenames.clashing import lives_of, names_left
from livenames.errors import NoNames, NoNumber, NoPool
from livenames.terms import need_term
from livenames.words import is_name, is_number, is_number_below
from livenames.writing import need_right

MOST_IN_A_POOL = 60


def is_pool(value):
    """Whether any value is a list or tuple of up to sixty unlike names."""
    if not isinstance(value, (list, tuple)) or len(value) > MOST_IN_A_POOL:
        return False
    return all([is_name(name) for name in value]) and len(set(value)) == len(value)


def how_many(term, pool):
    """How many right namings from a pool there are."""
    need_pool(term, pool)
    many = 1
    for room in rooms_in(term, pool):
        many *= room
    return many


def all_namings(term, pool):
    """A generator of all right namings from a pool, in order."""
    need_pool(term, pool)
    names = list(pool)
    lives = lives_of(term)
    waiting = [()]
    if 0 in rooms_in(term, names):
        # Otherwise great terms would go through all beginnings, which end far down.
        waiting.clear()
    while waiting:
        begun = waiting.pop()
        if len(begun) == len(lives):
            yield begun
        else:
            left = names_left(names, lives[len(begun)], begun)
            # The first name goes on top, as it is taken next.
            waiting.extend([(*begun, name) for name in left[::-1]])


def naming_at(term, pool, number):
    """The right naming from a pool that has a number, from 0 on."""
    if not is_number_below(number, how_many(term, pool)):
        raise NoNumber(number)
    places = []
    left = number
    for room in rooms_in(term, pool)[::-1]:
        left, place = divmod(left, room)
        places.append(place)
    naming = []
    for live, place in zip(lives_of(term), places[::-1]):
        naming.append(names_left(pool, live, naming)[place])
    return tuple(naming)


def number_of(term, pool, names):
    """The number, from 0 on, of a right naming from a pool."""
    need_pool(term, pool)
    need_right_from(term, pool, names)
    number = 0
    for name, live, room in zip(names, lives_of(term), rooms_in(term, pool)):
        number = number * room + names_left(pool, live, names).index(name)
    return number


def need_pool(term, value):
    """Raises NoPool for any value that is no pool."""
    need_term(term)
    if not is_pool(value):
        raise NoPool(value)


def need_right_from(term, pool, value):
    """Raises NoNames for any value that is no right naming of a term from a pool."""
    need_right(term, value)
    if not all([name in pool for name in value]):
        raise NoNames(value)


def rooms_in(term, pool):
    """For each binder how many names of a pool are left for it, whatever right names are live at it."""
    rooms = []
    for live in lives_of(term):
        # All that are live at one binder clash with one another, so that each takes another name.
        taken = [one for one in live if is_number(one) or one in pool]
        rooms.append(max(0, len(pool) - len(taken)))
    return rooms
