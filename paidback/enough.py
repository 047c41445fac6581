"""How many are enough, and how much goes through hands where more and more come."""

from paidback.basics import MOST_CENTS, MOST_FOLK, is_cents, is_whole_within
from paidback.errors import NoCents, NoMany

MOST_COMING = 10 ** 6


def check_bills(bills):
    """Refuse anything that bills cannot come to."""
    if not is_cents(bills):
        raise NoCents("bills are a number from 0 to 10 ** 18")


def check_many(many, most):
    """Refuse anything that is no number of folk from 1 to the most that there may be."""
    if not is_whole_within(many, 1, most):
        raise NoMany(f"many are a number from 1 to {most}")


def least_many(bills, cents):
    """How many must be in, at least, so that nobody has paid more than these cents."""
    check_bills(bills)
    if not is_whole_within(cents, 1, MOST_CENTS):
        raise NoCents("cents are a number from 1 to 10 ** 18")
    return (bills + cents - 1) // cents


def through_hands(bills, many):
    """How much is handed in all where so many come, one by one, to the one who was there alone."""
    check_bills(bills)
    check_many(many, MOST_COMING)
    total = 0
    # Who comes hands all they have then paid, and that is nothing once there are more folk than cents.
    for among in range(2, min(many + 1, bills) + 1):
        total += bills // among
    return total


def must_hand(bills, many):
    """The least that one who comes must hand, where so many are in, whoever has the cents more."""
    check_bills(bills)
    check_many(many, MOST_FOLK)
    # One of many + 1 who are alike to a cent has paid no less than this. It is enough, too: nobody else
    # need hand anything if those who have the cents more then are some of those who had them before.
    return bills // (many + 1)
