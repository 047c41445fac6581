"""What all parts share: numbers, names, what each has paid, and what one deed does to a state.

Nothing here refuses anything: whoever calls has looked at what was handed in.
"""

MOST_CENTS = 10 ** 18
MOST_FOLK = 40
MOST_LETTERS = 8
HOUSE = ""


def is_whole_within(thing, least, most):
    """Whether a thing is a whole number in these bounds; Python counts truths as ints, the club does not."""
    return isinstance(thing, int) and not isinstance(thing, bool) and least <= thing <= most


def is_cents(thing):
    """Whether a thing is a number of cents from 0 to the most that bills come to."""
    return is_whole_within(thing, 0, MOST_CENTS)


def is_name(thing):
    """Whether a thing is a text of 1 to 8 small letters."""
    if not isinstance(thing, str) or not 1 <= len(thing) <= MOST_LETTERS:
        return False
    return all(["a" <= letter <= "z" for letter in thing])


def is_pair(thing):
    """Whether a thing is a tuple of two."""
    return isinstance(thing, tuple) and len(thing) == 2


def share(bills, many, place):
    """What the one at a place has paid of the bills, where so many are in."""
    if bills < place:
        return 0
    return (bills - place + many - 1) // many


def shares(state):
    """What each one who is in has paid: a dict from names to cents."""
    bills, folk = state
    return {name: share(bills, len(folk), place) for place, name in enumerate(folk)}


def paid_pairs(state):
    """What each one who is in has paid, as pairs (name, cents), rising."""
    cents_of = shares(state)
    return sorted([(name, cents_of[name]) for name in cents_of])


def can_bill(state, cents):
    """Whether a bill of so many cents can come."""
    bills, folk = state
    return len(folk) > 0 and bills + cents <= MOST_CENTS


def can_come(state, name):
    """Whether one of this name can come."""
    folk = state[1]
    return name not in folk and len(folk) < MOST_FOLK


def can_go(state, name):
    """Whether one of this name can go; the last one cannot where nobody would be left to hold the bills."""
    bills, folk = state
    return name in folk and (len(folk) > 1 or bills == 0)


def billed(state, cents):
    """The state behind a bill."""
    bills, folk = state
    return (bills + cents, folk)


def joined(state, name):
    """The state behind the coming of one."""
    bills, folk = state
    return (bills, folk + (name,))


def parted(state, name):
    """The state behind the going of one."""
    bills, folk = state
    return (bills, tuple([other for other in folk if other != name]))


def extras(more, less):
    """What each one has in the first dict beyond what they have in the second, where that is anything."""
    return [(name, more[name] - less[name]) for name in more if more[name] > less[name]]


def bill_triples(state, cents):
    """What is handed where a bill comes, rising."""
    more = extras(shares(billed(state, cents)), shares(state))
    return sorted([(name, HOUSE, extra) for name, extra in more])


def come_triples(state, name):
    """What is handed where one comes, rising."""
    too_much = extras(shares(state), shares(joined(state, name)))
    return sorted([(name, other, extra) for other, extra in too_much])


def go_triples(state, name):
    """What is handed where one goes, rising."""
    too_little = extras(shares(parted(state, name)), shares(state))
    return sorted([(other, name, extra) for other, extra in too_little])


def add_triples(sums, triples):
    """Add what was handed to the sums, a dict from pairs (from, to) to cents."""
    for giver, taker, cents in triples:
        way = (giver, taker)
        sums[way] = sums.get(way, 0) + cents


def take_triples(sums, triples):
    """Take what was added out of the sums again; no sum of 0 stays, so that equal sums are equal dicts."""
    for giver, taker, cents in triples:
        way = (giver, taker)
        sums[way] -= cents
        if sums[way] == 0:
            del sums[way]


def sum_triples(sums):
    """The sums as triples (from, to, cents), rising."""
    return sorted([(giver, taker, sums[(giver, taker)]) for giver, taker in sums])
