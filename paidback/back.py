"""What was seen told back: which bills fit it, and which orders of folk."""

from paidback.basics import MOST_FOLK, is_cents, is_name, is_pair, is_whole_within, share
from paidback.enough import check_bills, check_many
from paidback.errors import NoCents, NoPaid, NoPlace, NoSeen

MOST_SEEN = 10
MOST_KNOWN = 8
MOST_HANDED = 10 ** 15


def is_sight(thing):
    """Whether a thing is one triple (many, place, cents) that can have been seen."""
    if not isinstance(thing, tuple) or len(thing) != 3:
        return False
    many, place, cents = thing
    # The place is held against many, which must be a number before that.
    return is_whole_within(many, 1, MOST_FOLK) and is_whole_within(place, 0, many - 1) and is_cents(cents)


def check_seen(seen):
    """Refuse anything that is no tuple of 1 to 10 triples."""
    if not isinstance(seen, tuple) or not 1 <= len(seen) <= MOST_SEEN or not all([is_sight(part) for part in seen]):
        raise NoSeen("seen is a tuple of 1 to 10 triples (many, place, cents)")


def is_known(thing):
    """Whether a thing is a tuple of 1 to 8 pairs (name, cents) of unlike names, rising."""
    if not isinstance(thing, tuple) or not 1 <= len(thing) <= MOST_KNOWN:
        return False
    if not all([is_pair(part) and is_name(part[0]) and is_cents(part[1]) for part in thing]):
        return False
    names = [name for name, cents in thing]
    return names == sorted(set(names))


def check_known(known):
    """Refuse anything that does not tell what 1 to 8 folk have paid."""
    if not is_known(known):
        raise NoPaid("known is a rising tuple of 1 to 8 pairs (name, cents) of unlike names")


def fitting(many, place, cents):
    """The stretch of bills by which the one at a place among so many has paid just so many cents."""
    if cents == 0:
        return 0, place
    return place + (cents - 1) * many + 1, place + cents * many


def stretches(numbers):
    """Rising numbers as stretches (least, greatest), with a gap between each two of them."""
    found = []
    for number in numbers:
        if found and found[-1][1] == number - 1:
            found[-1] = (found[-1][0], number)
        else:
            found.append((number, number))
    return found


def comer_hands(bills, many, place):
    """What one who comes hands to the one at a place, where so many were in."""
    return share(bills, many, place) - share(bills, many + 1, place)


def factorial(many):
    """In how many orders so many can stand."""
    ways = 1
    for number in range(2, many + 1):
        ways *= number
    return ways


def bills_of(seen):
    """The stretch (least, greatest) of all bills that fit what was seen, None where none do."""
    check_seen(seen)
    fits = [fitting(many, place, cents) for many, place, cents in seen]
    least = max([low for low, high in fits])
    greatest = min([high for low, high in fits])
    return (least, greatest) if least <= greatest else None


def bills_handing(many, place, cents):
    """All bills by which one who comes hands so many cents to the one at a place: a rising list of stretches."""
    check_many(many, MOST_FOLK - 1)
    if not is_whole_within(place, 0, many - 1):
        raise NoPlace("a place is a number from 0 on, below many")
    if not is_whole_within(cents, 0, MOST_HANDED):
        raise NoCents("cents that were handed are a number from 0 to 10 ** 15")
    # With bills greater by this turn just one cent more is handed. Within a turn, counted from bills of the
    # place on, what is handed never strays by more than a cent: so all bills that fit lie in two turns.
    turn = many * (many + 1)
    least = max(0, place + (cents - 1) * turn)
    beyond = place + (cents + 1) * turn
    return stretches([bills for bills in range(least, beyond) if comer_hands(bills, many, place) == cents])


def orders(bills, known):
    """In how many orders the known folk can have come, and the first of these: a pair (number, names or None)."""
    check_bills(bills)
    check_known(known)
    many = len(known)
    # Who has paid more stands ahead; of those who have paid the same the names tell which order is the first.
    row = sorted([(-cents, name) for name, cents in known])
    if [-less for less, name in row] != [share(bills, many, place) for place in range(many)]:
        return 0, None
    with_more = bills % many
    return factorial(with_more) * factorial(many - with_more), tuple([name for less, name in row])
