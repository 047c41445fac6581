"""Points 2, 3 and 10 to 12: which bills and which orders fit what was seen."""

import copy
import itertools
import math
import unittest

from paidback.back import bills_handing, bills_of, orders
from paidback.clubs import come_handed, paid
from paidback.errors import ClubError, NoCents, NoMany, NoPaid, NoPlace, NoSeen
from tests.samples import LETTERS, MOST, WRONG_CENTS, WRONG_KNOWN, WRONG_MANY, WRONG_PLACES, WRONG_SEEN
from tests.samples import chance_of, dealt, folk_of


def paid_at(bills, many, place):
    """What the one at a place has paid, by another way than the program's: whole rounds, and a cent more ahead."""
    return bills // many + (place < bills % many)


def handed_at(bills, many, place):
    return paid_at(bills, many, place) - paid_at(bills, many + 1, place)


def stretches_of(numbers):
    """Rising numbers as stretches, by another way: a stretch has one difference of number and index."""
    rows = itertools.groupby(enumerate(numbers), key=lambda pair: pair[1] - pair[0])
    groups = [[number for _, number in group] for _, group in rows]
    return [(group[0], group[-1]) for group in groups]


class BillsOf(unittest.TestCase):
    def test_told_words(self):
        self.assertEqual(bills_of(((1, 0, 100),)), (100, 100))
        self.assertEqual(bills_of(((3, 0, 34),)), (100, 102))
        self.assertEqual(bills_of(((3, 2, 34),)), (102, 104))
        self.assertEqual(bills_of(((3, 0, 34), (3, 2, 33))), (100, 101))
        self.assertEqual(bills_of(((3, 0, 34), (3, 2, 34))), (102, 102))
        self.assertEqual(bills_of(((3, 0, 34), (2, 1, 50))), (100, 101))

    def test_nothing_was_paid(self):
        self.assertEqual(bills_of(((1, 0, 0),)), (0, 0))
        self.assertEqual(bills_of(((40, 39, 0),)), (0, 39))
        self.assertEqual(bills_of(((40, 0, 0),)), (0, 0))
        self.assertEqual(bills_of(((40, 39, 0), (2, 1, 3))), (6, 7))
        self.assertEqual(bills_of(((40, 39, 0), (1, 0, 39))), (39, 39))
        self.assertIs(bills_of(((40, 39, 0), (1, 0, 40))), None)

    def test_none_fit(self):
        self.assertIs(bills_of(((1, 0, 5), (1, 0, 6))), None)
        self.assertIs(bills_of(((3, 0, 33), (3, 2, 34))), None)
        self.assertIs(bills_of(((3, 0, 35), (3, 2, 33))), None)
        self.assertIs(bills_of(((1, 0, MOST), (40, 0, MOST))), None)
        self.assertIs(bills_of(((1, 0, 5),) * 9 + ((1, 0, 4),)), None)

    def test_bills_however_great(self):
        self.assertEqual(bills_of(((1, 0, MOST),)), (MOST, MOST))
        self.assertEqual(bills_of(((2, 0, MOST),)), (2 * MOST - 1, 2 * MOST))
        self.assertEqual(bills_of(((40, 39, MOST),)), (40 * MOST, 40 * MOST + 39))
        self.assertEqual(bills_of(((40, 0, MOST), (40, 39, MOST))), (40 * MOST, 40 * MOST))

    def test_all_single_sights(self):
        for many in (1, 2, 3, 7, 40):
            for place in range(many):
                for cents in range(0, 4):
                    fits = [bills for bills in range(0, 250) if paid_at(bills, many, place) == cents]
                    self.assertEqual(bills_of(((many, place, cents),)), (fits[0], fits[-1]))

    def test_through_all_bills(self):
        for seed in range(400):
            chance = chance_of(seed)
            bills = chance.randint(0, 120)
            seen = []
            for _ in range(chance.randint(1, 10)):
                many = chance.randint(1, 40)
                place = chance.randrange(many)
                off = chance.choice([0] * 12 + [1, -1])
                seen.append((many, place, max(0, paid_at(bills, many, place) + off)))
            # No sight of at most 40 folk fits bills of more than 240 here.
            fits = [number for number in range(0, 400) if all(paid_at(number, *one[:2]) == one[2] for one in seen)]
            self.assertEqual(bills_of(tuple(seen)), (fits[0], fits[-1]) if fits else None)

    def test_just_the_told_bills_fit(self):
        for seed in range(200):
            chance = chance_of(seed)
            bills = chance.choice([chance.randint(0, MOST), chance.randint(0, 40 * MOST), 40 * MOST])
            enough = [many for many in range(1, 41) if bills <= many * MOST]
            sights = [(many, chance.randrange(many)) for many in chance.choices(enough, k=chance.randint(1, 10))]
            seen = tuple((many, place, paid_at(bills, many, place)) for many, place in sights)
            least, greatest = bills_of(seen)
            self.assertTrue(0 <= least <= bills <= greatest)
            for number, fits in [(least, True), (greatest, True), (least - 1, False), (greatest + 1, False)]:
                told = all(paid_at(number, many, place) == cents for many, place, cents in seen)
                self.assertEqual(told and number >= 0, fits)

    def test_one_and_ten_and_eleven(self):
        sight = (3, 1, 5)
        self.assertEqual(bills_of((sight,)), (14, 16))
        self.assertEqual(bills_of((sight,) * 10), (14, 16))
        for seen in [(), (sight,) * 11]:
            with self.assertRaises(NoSeen):
                bills_of(seen)

    def test_edges_of_sights(self):
        for sight in [(1, 0, 0), (40, 39, 0), (40, 0, MOST), (39, 38, 1)]:
            self.assertIsInstance(bills_of((sight,)), tuple)
        for sight in [(0, 0, 0), (41, 0, 0), (40, 40, 0), (1, 1, 0), (3, -1, 0), (3, 0, -1), (3, 0, MOST + 1)]:
            with self.subTest(sight), self.assertRaises(NoSeen):
                bills_of((sight,))

    def test_wrong_things(self):
        for thing in WRONG_SEEN:
            with self.subTest(thing), self.assertRaises(NoSeen):
                bills_of(thing)

    def test_none_that_fit_do_not_go_ahead_of_a_wrong_one(self):
        with self.assertRaises(NoSeen):
            bills_of(((1, 0, 5), (1, 0, 6), (1, 1, 5)))

    def test_a_pair_of_whole_numbers(self):
        told = bills_of(((3, 1, 5),))
        self.assertEqual([type(told), type(told[0]), type(told[1])], [tuple, int, int])


class BillsHanding(unittest.TestCase):
    def test_told_words(self):
        # One alone has paid all; who comes hands half of it, rounded down.
        for cents in (0, 1, 2, 50, 10 ** 15):
            self.assertEqual(bills_handing(1, 0, cents), [(2 * cents, 2 * cents + 1)])
        # Two are in; the first has paid half, then a third: 1 0, 1 1, 2 1, 2 2, 3 2, 3 2, 4 3, 4 3 ..
        self.assertEqual(bills_handing(2, 0, 0), [(0, 2), (4, 4)])
        self.assertEqual(bills_handing(2, 0, 1), [(3, 3), (5, 8), (10, 10)])
        self.assertEqual(bills_handing(2, 1, 0), [(0, 3), (5, 5)])

    def test_through_all_bills(self):
        for many in list(range(1, 8)) + [39]:
            turn = many * (many + 1)
            places = range(many) if many < 39 else (0, 1, 20, 38)
            for place in places:
                for cents in (0, 1, 2, 3):
                    fits = [bills for bills in range(0, (cents + 3) * turn) if handed_at(bills, many, place) == cents]
                    self.assertEqual(bills_handing(many, place, cents), stretches_of(fits), (many, place, cents))

    def test_great_bills(self):
        chance = chance_of(11)
        for many in (1, 2, 3, 17, 38, 39):
            turn = many * (many + 1)
            for cents in (10 ** 15, 10 ** 15 - 1, chance.randint(10 ** 9, 10 ** 15)):
                place = chance.randrange(many)
                middle = cents * turn
                around = range(middle - 3 * turn, middle + 3 * turn)
                fits = [bills for bills in around if handed_at(bills, many, place) == cents]
                self.assertEqual(bills_handing(many, place, cents), stretches_of(fits))

    def test_bills_above_those_of_a_state(self):
        told = bills_handing(39, 38, 10 ** 15)
        self.assertGreater(told[0][0], MOST)

    def test_as_handed_in_a_club(self):
        for many in (1, 2, 5, 39):
            folk = folk_of(many)
            for bills in list(range(0, 70)) + [1559, 1560, 1561, 12345, 10 ** 12 + 7]:
                told = {taker: cents for _, taker, cents in come_handed((bills, folk), "new")}
                for place in (0, many // 2, many - 1):
                    cents = told.get(folk[place], 0)
                    here = bills_handing(many, place, cents)
                    self.assertTrue(any(least <= bills <= greatest for least, greatest in here))
                    other = bills_handing(many, place, cents + 1)
                    self.assertFalse(any(least <= bills <= greatest for least, greatest in other))

    def test_a_number_that_is_none_between_two(self):
        for many in (1, 2, 3, 10, 39):
            for place in (0, many - 1):
                for cents in (0, 1, 7, 10 ** 15):
                    told = bills_handing(many, place, cents)
                    self.assertIs(type(told), list)
                    self.assertTrue(all(type(pair) is tuple and len(pair) == 2 for pair in told))
                    flat = [number for pair in told for number in pair]
                    self.assertEqual(flat, sorted(flat))
                    self.assertTrue(all(now[1] + 1 < then[0] for now, then in zip(told, told[1:])))

    def test_edges(self):
        for many, place, cents in [(0, 0, 5), (40, 0, 5), (41, 0, 5), (-1, 0, 5), (40, 40, -1), (0, 0, -1)]:
            with self.subTest((many, place, cents)), self.assertRaises(NoMany):
                bills_handing(many, place, cents)
        for many, place, cents in [(1, 1, 5), (39, 39, 5), (5, 6, 5), (5, -1, 5), (5, 5, -1), (39, 40, 10 ** 15 + 1)]:
            with self.subTest((many, place, cents)), self.assertRaises(NoPlace):
                bills_handing(many, place, cents)
        for many, place, cents in [(1, 0, 10 ** 15 + 1), (39, 38, 10 ** 15 + 1), (5, 4, -1), (5, 0, MOST)]:
            with self.subTest((many, place, cents)), self.assertRaises(NoCents):
                bills_handing(many, place, cents)

    def test_no_many_goes_first(self):
        for thing in WRONG_MANY + [40]:
            for place, cents in [(0, 5), (-1, 5), (None, None), (0, -1), (True, "x"), ([], [])]:
                with self.subTest((thing, place, cents)), self.assertRaises(NoMany):
                    bills_handing(thing, place, cents)

    def test_no_place_goes_next(self):
        for many in (1, 2, 39):
            for thing in WRONG_PLACES + [many]:
                for cents in (5, -1, None, 10 ** 15 + 1, True):
                    with self.subTest((many, thing, cents)), self.assertRaises(NoPlace):
                        bills_handing(many, thing, cents)

    def test_no_cents_go_last(self):
        for many, place in [(1, 0), (39, 38)]:
            for thing in WRONG_CENTS + [10 ** 15 + 1]:
                with self.subTest((many, place, thing)), self.assertRaises(NoCents):
                    bills_handing(many, place, thing)

    def test_lists_are_the_askers_own(self):
        for arguments in [(1, 0, 5), (2, 0, 1), (39, 38, 0)]:
            told = bills_handing(*arguments)
            kept = list(told)
            told.append("mine")
            told.reverse()
            self.assertEqual(bills_handing(*arguments), kept)
            self.assertIsNot(bills_handing(*arguments), bills_handing(*arguments))


class Orders(unittest.TestCase):
    def through_all(self, bills, known):
        """All orders of the folk, one by one."""
        cents_of = dict(known)
        found = [row for row in itertools.permutations(sorted(cents_of)) if dealt(bills, row) == cents_of]
        return len(found), min(found) if found else None

    def test_told_words(self):
        self.assertEqual(orders(100, (("ann", 33), ("bob", 34), ("zoe", 33))), (2, ("bob", "ann", "zoe")))
        self.assertEqual(orders(101, (("ann", 34), ("bob", 33), ("zoe", 34))), (2, ("ann", "zoe", "bob")))
        self.assertEqual(orders(99, (("ann", 33), ("bob", 33), ("zoe", 33))), (6, ("ann", "bob", "zoe")))

    def test_one_order_alone(self):
        self.assertEqual(orders(7, (("a", 7),)), (1, ("a",)))
        self.assertEqual(orders(0, (("abcdefgh", 0),)), (1, ("abcdefgh",)))
        self.assertEqual(orders(7, (("a", 3), ("b", 4))), (1, ("b", "a")))
        self.assertEqual(orders(7, (("a", 4), ("b", 3))), (1, ("a", "b")))

    def test_none(self):
        self.assertEqual(orders(7, (("a", 6),)), (0, None))
        self.assertEqual(orders(8, (("a", 3), ("b", 4))), (0, None))
        self.assertEqual(orders(8, (("a", 3), ("b", 5))), (0, None))
        self.assertEqual(orders(8, (("a", 5), ("b", 3))), (0, None))
        self.assertEqual(orders(0, (("a", 0), ("b", 1))), (0, None))
        self.assertEqual(orders(6, (("a", 3), ("b", 2), ("c", 1))), (0, None))

    def test_the_greatest_bills(self):
        self.assertEqual(orders(MOST, (("a", MOST),)), (1, ("a",)))
        self.assertEqual(orders(MOST, (("a", MOST - 1),)), (0, None))
        third = MOST // 3
        self.assertEqual(orders(MOST, (("a", third), ("b", third), ("c", third + 1))), (2, ("c", "a", "b")))

    def test_eight_folk_and_nine(self):
        folk = LETTERS[:8]
        self.assertEqual(orders(0, tuple((name, 0) for name in folk)), (math.factorial(8), tuple(folk)))
        self.assertEqual(orders(8, tuple((name, 1) for name in folk)), (math.factorial(8), tuple(folk)))
        known = tuple((name, 5 if name in "beh" else 4) for name in folk)
        self.assertEqual(orders(35, known), (6 * 120, tuple("behacdfg")))
        with self.assertRaises(NoPaid):
            orders(0, tuple((name, 0) for name in LETTERS[:9]))
        with self.assertRaises(NoPaid):
            orders(0, ())

    def test_through_all_orders(self):
        for many in range(1, 5):
            folk = ("b", "ba", "c", "z")[:many]
            for bills in range(0, 8):
                for row in itertools.product(range(0, 5), repeat=many):
                    known = tuple(zip(folk, row))
                    self.assertEqual(orders(bills, known), self.through_all(bills, known))

    def test_through_all_orders_of_more_folk(self):
        for many in (5, 6):
            folk = sorted(folk_of(many))
            for bills in (0, 1, 3, many, many + 2, 3 * many - 1):
                chance = chance_of(bills)
                known = tuple(sorted(dealt(bills, chance.sample(folk, many)).items()))
                self.assertEqual(orders(bills, known), self.through_all(bills, known))

    def test_what_folk_of_a_state_have_paid(self):
        for seed in range(150):
            chance = chance_of(seed)
            folk = tuple(chance.sample(folk_of(40), chance.randint(1, 8)))
            bills = chance.choice([chance.randint(0, 20), chance.randint(0, MOST), MOST])
            number, first = orders(bills, tuple(paid((bills, folk))))
            self.assertGreaterEqual(number, 1)
            self.assertEqual(paid((bills, first)), paid((bills, folk)))
            self.assertLessEqual(first, folk)

    def test_no_cents_go_first(self):
        for thing in WRONG_CENTS + [MOST + 1]:
            for known in [(("a", 1),), (), None, [("a", 1)], (("b", 1), ("a", 1)), True]:
                with self.subTest((thing, known)), self.assertRaises(NoCents):
                    orders(thing, known)

    def test_wrong_known(self):
        for bills in (0, 2, MOST):
            for thing in WRONG_KNOWN:
                with self.subTest((bills, thing)), self.assertRaises(NoPaid):
                    orders(bills, thing)

    def test_a_pair(self):
        for known in [(("a", 5),), (("a", 4),)]:
            told = orders(5, known)
            self.assertEqual([type(told), len(told), type(told[0])], [tuple, 2, int])
        self.assertIs(type(orders(5, (("a", 5),))[1]), tuple)


class Handling(unittest.TestCase):
    """Point 2: nothing handed in is changed."""

    def test_wrong_things_stay_as_they_are(self):
        for thing in WRONG_SEEN + WRONG_KNOWN + WRONG_PLACES:
            kept = copy.deepcopy(thing)
            asked = [(bills_of, (thing,)), (orders, (5, thing)), (orders, (thing, (("a", 5),))),
                     (bills_handing, (thing, 0, 5)), (bills_handing, (3, thing, 5)), (bills_handing, (3, 0, thing))]
            for ask, arguments in asked:
                try:
                    ask(*arguments)
                except ClubError:
                    pass
            self.assertEqual(thing, kept)

    def test_the_same_is_answered_the_same(self):
        seen = ((3, 0, 34), (2, 1, 50))
        known = (("ann", 33), ("bob", 34), ("zoe", 33))
        for _ in range(2):
            self.assertEqual(bills_of(seen), (100, 101))
            self.assertEqual(orders(100, known), (2, ("bob", "ann", "zoe")))
        self.assertEqual(seen, ((3, 0, 34), (2, 1, 50)))


if __name__ == "__main__":
    unittest.main()
