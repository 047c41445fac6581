"""A club that is kept, deed by deed."""

from paidback.basics import MOST_CENTS, MOST_FOLK, add_triples, bill_triples, billed, come_triples, go_triples
from paidback.basics import is_cents, is_name, joined, paid_pairs, parted, sum_triples, take_triples
from paidback.errors import Full, LastOne, NoCents, NoName, Nobody, NotIn, NothingLeft, TooMuch, Twice


def check_name(name):
    """Refuse anything that is no name."""
    if not is_name(name):
        raise NoName("a name is a text of 1 to 8 small letters")


class Club:
    """A club with no bills and nobody in at first."""

    def __init__(self):
        self.now = (0, ())
        self.sums = {}
        self.past = []

    def bill(self, cents):
        """A bill comes: what is handed to the house."""
        if not is_cents(cents):
            raise NoCents("a bill is a number from 0 to 10 ** 18")
        bills, folk = self.now
        if len(folk) == 0:
            raise Nobody("nobody is in who could pay a bill")
        if bills + cents > MOST_CENTS:
            raise TooMuch("bills would come above 10 ** 18")
        return self.move(billed(self.now, cents), bill_triples(self.now, cents))

    def come(self, name):
        """One comes: what they hand to those who are in."""
        check_name(name)
        folk = self.now[1]
        if name in folk:
            raise Twice(name)
        if len(folk) == MOST_FOLK:
            raise Full("forty are in")
        return self.move(joined(self.now, name), come_triples(self.now, name))

    def go(self, name):
        """One goes: what those who stay hand to them."""
        check_name(name)
        bills, folk = self.now
        if name not in folk:
            raise NotIn(name)
        if len(folk) == 1 and bills > 0:
            raise LastOne("nobody would be left to hold the bills")
        return self.move(parted(self.now, name), go_triples(self.now, name))

    def move(self, state, triples):
        """Go on to another state; what was handed is told as a copy, for it is needed to take the deed back."""
        self.past.append((self.now, triples))
        self.now = state
        add_triples(self.sums, triples)
        return list(triples)

    def back(self):
        """Take back what was done last."""
        if len(self.past) == 0:
            raise NothingLeft("nothing is left to take back")
        state, triples = self.past.pop()
        self.now = state
        take_triples(self.sums, triples)

    def state(self):
        """The state (bills, folk)."""
        return self.now

    def paid(self):
        """What each one who is in has paid: a rising list of pairs (name, cents)."""
        return paid_pairs(self.now)

    def handed(self):
        """What everybody handed to everybody in all: a rising list of triples (from, to, cents)."""
        return sum_triples(self.sums)

    def __len__(self):
        return len(self.now[1])

    def __eq__(self, other):
        return isinstance(other, Club) and self.now == other.now and self.sums == other.sums
