"""Point 3, over the whole program: the parts hold against one another."""

import itertools
import unittest

from paidback.back import bills_handing, bills_of, orders
from paidback.clubs import come_handed, go_handed, paid
from paidback.deeds import behind, handed
from paidback.enough import least_many, must_hand, through_hands
from paidback.kept import Club
from tests.samples import MOST, chance_of, folk_of, random_row


def kept_by(row):
    club = Club()
    for word, what in row:
        {"bill": club.bill, "come": club.come, "go": club.go}[word](what)
    return club


class Whole(unittest.TestCase):
    def test_paid_hangs_on_bills_and_order_alone(self):
        folk = ("c", "a", "b")
        plain = paid((11, folk))
        comings = [("come", name) for name in folk]
        # All ways to mingle the comings with three bills, and one who comes and goes at any time.
        for places in itertools.product(range(1, 4), repeat=3):
            for enter in range(0, 7):
                for leave in range(enter + 1, 8):
                    row = list(comings)
                    for place, cents in sorted(zip(places, (1, 3, 7)), reverse=True):
                        row.insert(place, ("bill", cents))
                    row.insert(enter, ("come", "guest"))
                    row.insert(leave, ("go", "guest"))
                    last = behind((0, ()), row)
                    if last is not None:
                        self.assertEqual(last, (11, folk))
                        self.assertEqual(kept_by(row).paid(), plain)
                        self.assertEqual(kept_by(row).handed(), handed((0, ()), row))

    def test_what_is_handed_comes_to_what_must_be(self):
        for seed in range(60):
            chance = chance_of(seed)
            many = chance.randint(2, 39)
            bills = chance.choice([chance.randint(0, 100), chance.randint(0, MOST)])
            state = (bills, folk_of(many))
            told = come_handed(state, "new")
            self.assertEqual({giver for giver, _, _ in told} | {"new"}, {"new"})
            self.assertEqual(sum(cents for _, _, cents in told), must_hand(bills, many))
            behind_it = dict(paid((bills, folk_of(many) + ("new",))))
            self.assertEqual(behind_it["new"], must_hand(bills, many))
            goer = chance.choice(folk_of(many))
            told = go_handed(state, goer)
            self.assertEqual({taker for _, taker, _ in told} | {goer}, {goer})
            self.assertEqual(sum(cents for _, _, cents in told), dict(paid(state))[goer])

    def test_comings_to_one_alone(self):
        for bills in (0, 1, 7, 100, 12345, MOST):
            club = kept_by([("come", "first"), ("bill", bills)])
            for many, name in enumerate(folk_of(39), 1):
                club.come(name)
                moved = sum(cents for _, taker, cents in club.handed() if taker)
                self.assertEqual(through_hands(bills, many), moved)

    def test_told_back_of_clubs_kept(self):
        for seed in range(40):
            chance = chance_of(seed)
            row, (bills, folk) = random_row(chance, (0, ()), 60, chance.choice([2, 50, 10 ** 13]))
            club = kept_by(row)
            known = club.paid()
            places = chance.sample(range(len(folk)), min(10, len(folk)))
            seen = tuple((len(folk), place, dict(known)[folk[place]]) for place in places)
            if seen:
                least, greatest = bills_of(seen)
                self.assertTrue(least <= bills <= greatest)
            if 1 <= len(folk) <= 8:
                number, first = orders(bills, tuple(known))
                self.assertGreaterEqual(number, 1)
                self.assertLessEqual(first, folk)
            if 1 <= len(folk) <= 39:
                got = {taker: cents for _, taker, cents in club.come("new")}
                for place, name in enumerate(folk):
                    told = bills_handing(len(folk), place, got.get(name, 0))
                    self.assertEqual(sum(least <= bills <= greatest for least, greatest in told), 1)

    def test_enough_are_in(self):
        for bills in list(range(1, 41)) + [999, MOST]:
            for many in range(1, 41):
                most = max(cents for _, cents in paid((bills, folk_of(many))))
                self.assertLessEqual(least_many(bills, most), many)
                if most > 1 and least_many(bills, most - 1) <= 40:
                    self.assertGreater(least_many(bills, most - 1), many)

    def test_more_folk_pay_no_more_and_greater_bills_no_less(self):
        for seed in range(30):
            chance = chance_of(seed)
            club = kept_by([("come", "a")])
            for _ in range(60):
                before = dict(club.paid())
                if len(club) < 40 and chance.random() < 0.6:
                    club.come(folk_of(40)[len(club)])
                    self.assertTrue(all(dict(club.paid())[name] <= before[name] for name in before))
                else:
                    club.bill(chance.randint(0, 50))
                    self.assertTrue(all(dict(club.paid())[name] >= before[name] for name in before))


if __name__ == "__main__":
    unittest.main()
