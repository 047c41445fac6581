"""How many are enough, and how much goes through hands where more and more come."""

from paidback.basics import MOST_CENTS, MOST_FOLK, is_cents, is_whole_within
from paidback.errors import NoCents, NoMany

MOST_COMING = 10 ** 6


def check_bills(bills):
    """Refuse anything that bills cannot come to."""
    if not is_cents(bills):
        raise NoCents("bills are a number from 0 to 10 ** 18")


def check_many(many, most):
    """Refuse anything that is no number of folk from 1 to the most that there may be."""
    if not is_whole_within(many, 1, most):
        raise NoMany(f"many are a number from 1 to {most}")


def least_many(bills, cents):
    """How many must be in, at least, so that nobody has paid more than these cents."""
    check_bills(bills)
    if not is_whole_within(cents, 1, MOST_CENTS):
        raise NoCents("cents are a number from 1 to 10 ** 18")
    return (bills + cents - 1) // cents


def root_below(number):
    """The greatest number whose square is not above this one."""
    root = number
    # Each step comes down, but never below the root that is sought.
    while root * root > number:
        root = (root + number // root) // 2
    return root


def sum_divided(bills, first, last):
    """Bills divided by each number from the first to the last, each time rounded down, in all."""
    total = 0
    for number in range(first, last + 1):
        total += bills // number
    return total


def through_hands(bills, many):
    """How much is handed in all where so many come, one by one, to the one who was there alone."""
    check_bills(bills)
    check_many(many, MOST_COMING)
    # Who comes hands all they have then paid: the bills divided by how many are then in, rounded down.
    last = many + 1
    root = root_below(bills)
    if last <= root:
        return sum_divided(bills, 2, last)
    # Beyond the root many hand the same few cents, so it is quicker to ask, cent by cent, who hands it: the
    # k-th cent is handed by those up to bills // k, and by all up to the last one for the cents that the
    # last one hands, too. Those up to the root are taken out again, as they are counted one by one.
    cents_of_first = bills // (root + 1)
    cents_of_last = bills // last
    reached = cents_of_last * last + sum_divided(bills, cents_of_last + 1, cents_of_first)
    return sum_divided(bills, 2, root) + reached - cents_of_first * root


def must_hand(bills, many):
    """The least that one who comes must hand, where so many are in, whoever has the cents more."""
    check_bills(bills)
    check_many(many, MOST_FOLK)
    # One of many + 1 who are alike to a cent has paid no less than this. It is enough, too: nobody else
    # need hand anything if those who have the cents more then are some of those who had them before.
    return bills // (many + 1)
