"""Who has paid what in a state, and what is handed where a bill comes or somebody comes or goes."""

from paidback.basics import MOST_FOLK, bill_triples, can_bill, can_come, can_go, come_triples, go_triples
from paidback.basics import is_cents, is_name, is_pair, paid_pairs
from paidback.errors import NoCents, NoName, NoState


def is_folk(thing):
    """Whether a thing is a tuple of at most forty unlike names."""
    if not isinstance(thing, tuple) or len(thing) > MOST_FOLK:
        return False
    # Only names are put into a set: other things may be such as no set can hold.
    return all([is_name(part) for part in thing]) and len(set(thing)) == len(thing)


def is_state(thing):
    """Whether a thing is a state: a pair (bills, folk)."""
    if not is_pair(thing):
        return False
    bills, folk = thing
    if not is_cents(bills) or not is_folk(folk):
        return False
    return bills == 0 or len(folk) > 0


def check_state(state):
    """Refuse anything that is no state."""
    if not is_state(state):
        raise NoState("a state is a pair (bills, folk)")


def paid(state):
    """What each one who is in has paid: a rising list of pairs (name, cents)."""
    check_state(state)
    return paid_pairs(state)


def bill_handed(state, cents):
    """What is handed to the house where a bill comes: a rising list of triples (from, to, cents)."""
    check_state(state)
    if not is_cents(cents) or not can_bill(state, cents):
        raise NoCents("a bill of so many cents cannot come here")
    return bill_triples(state, cents)


def come_handed(state, name):
    """What one who comes hands to those who are in: a rising list of triples (from, to, cents)."""
    check_state(state)
    if not is_name(name) or not can_come(state, name):
        raise NoName("nobody of this name can come here")
    return come_triples(state, name)


def go_handed(state, name):
    """What those who stay hand to one who goes: a rising list of triples (from, to, cents)."""
    check_state(state)
    if not is_name(name) or not can_go(state, name):
        raise NoName("nobody of this name can go here")
    return go_triples(state, name)
