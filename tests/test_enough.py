"""Points 2, 3, 8 and 9: how many are enough, and how much goes through hands."""

import copy
import itertools
import time
import unittest

from paidback.clubs import come_handed, paid
from paidback.enough import least_many, must_hand, through_hands
from paidback.errors import ClubError, NoCents, NoMany
from tests.samples import MOST, WRONG_CENTS, WRONG_MANY, chance_of, dealt, folk_of


def alike(bills, many):
    """All ways in which so many have paid the bills alike to a cent, whoever has the cents more."""
    low, more = divmod(bills, many)
    for chosen in itertools.combinations(range(many), more):
        yield [low + (at in chosen) for at in range(many)]


def coming_by_coming(bills, most):
    """What is handed in all where 1, 2 and so on up to the most come: a plain sum, as point 5 has what one has paid."""
    total = 0
    sums = {}
    for many in range(1, most + 1):
        # The newest of many + 1 is at the place many, and hands all they have then paid.
        total += -((many - bills) // (many + 1)) if bills >= many else 0
        sums[many] = total
    return sums


class LeastMany(unittest.TestCase):
    def test_told_words(self):
        self.assertEqual(least_many(100, 100), 1)
        self.assertEqual(least_many(100, 99), 2)
        self.assertEqual(least_many(100, 50), 2)
        self.assertEqual(least_many(100, 49), 3)
        self.assertEqual(least_many(100, 1), 100)
        self.assertEqual(least_many(1, 1), 1)

    def test_no_bills(self):
        for cents in (1, 2, 40, MOST):
            self.assertEqual(least_many(0, cents), 0)

    def test_the_greatest(self):
        self.assertEqual(least_many(MOST, 1), MOST)
        self.assertEqual(least_many(MOST, MOST), 1)
        self.assertEqual(least_many(MOST, MOST - 1), 2)
        self.assertEqual(least_many(MOST - 1, MOST), 1)
        self.assertEqual(least_many(MOST, 3), 333333333333333334)
        self.assertEqual(least_many(1, MOST), 1)

    def test_as_dealt_cent_by_cent(self):
        for bills in range(1, 60):
            for cents in range(1, 65):
                many = 1
                while max(dealt(bills, range(many)).values()) > cents:
                    many += 1
                self.assertEqual(least_many(bills, cents), many)

    def test_of_those_who_can_be_in(self):
        chance = chance_of(8)
        for _ in range(200):
            bills = chance.randint(1, MOST)
            cents = chance.randint(bills // 40 + 1, bills)
            many = least_many(bills, cents)
            self.assertLessEqual(max(cents_of for _, cents_of in paid((bills, folk_of(many)))), cents)
            if many > 1:
                self.assertGreater(max(cents_of for _, cents_of in paid((bills, folk_of(many - 1)))), cents)

    def test_edges(self):
        for arguments in [(MOST + 1, 1), (-1, 1), (5, 0), (0, 0), (5, MOST + 1), (MOST, MOST + 1), (5, -1)]:
            with self.subTest(arguments), self.assertRaises(NoCents):
                least_many(*arguments)

    def test_wrong_things(self):
        for thing in WRONG_CENTS:
            for other in (1, 5, 0, None, "x"):
                with self.subTest((thing, other)):
                    self.assertRaises(NoCents, least_many, thing, other)
                    self.assertRaises(NoCents, least_many, other, thing)


class ThroughHands(unittest.TestCase):
    def test_told_words(self):
        self.assertEqual(through_hands(100, 1), 50)
        self.assertEqual(through_hands(100, 2), 50 + 33)
        self.assertEqual(through_hands(100, 3), 50 + 33 + 25)
        self.assertEqual(through_hands(101, 3), 50 + 33 + 25)
        self.assertEqual(through_hands(1, 1), 0)
        self.assertEqual(through_hands(2, 1), 1)
        self.assertEqual(through_hands(3, 5), 1 + 1)

    def test_no_bills(self):
        for many in (1, 2, 10 ** 6):
            self.assertEqual(through_hands(0, many), 0)

    def test_as_told_coming_by_coming(self):
        for bills in (0, 1, 2, 3, 39, 40, 41, 999, 12345, MOST - 1, MOST):
            total = 0
            for many in range(1, 40):
                total += sum(cents for _, _, cents in come_handed((bills, folk_of(many)), "new"))
                self.assertEqual(through_hands(bills, many), total)

    def test_many_come_to_few_bills(self):
        # What all of so many places divide by comes to as many as there are ways to write numbers as products.
        for bills in (1, 2, 10, 300):
            ways = sum(1 for one in range(2, bills + 1) for other in range(1, bills + 1) if one * other <= bills)
            for many in (bills, bills + 1, 10 ** 6):
                self.assertEqual(through_hands(bills, many), ways)

    def test_a_million_come_to_the_greatest_bills(self):
        self.assertEqual(through_hands(MOST, 10 ** 6), sum(MOST // among for among in range(2, 10 ** 6 + 2)))
        self.assertEqual(through_hands(MOST, 1), MOST // 2)
        self.assertEqual(through_hands(MOST, 10 ** 6) - through_hands(MOST, 10 ** 6 - 1), MOST // (10 ** 6 + 1))
        self.assertEqual(through_hands(10 ** 6 + 1, 10 ** 6) - through_hands(10 ** 6 + 1, 10 ** 6 - 1), 1)
        self.assertEqual(through_hands(10 ** 6, 10 ** 6), through_hands(10 ** 6, 10 ** 6 - 1))

    def test_edges(self):
        for bills, many in [(5, 0), (5, 10 ** 6 + 1), (0, 0), (0, 10 ** 6 + 1), (5, -1), (MOST, MOST)]:
            with self.subTest((bills, many)), self.assertRaises(NoMany):
                through_hands(bills, many)
        for bills, many in [(MOST + 1, 1), (-1, 1), (MOST + 1, 0), (-1, 10 ** 6 + 1)]:
            with self.subTest((bills, many)), self.assertRaises(NoCents):
                through_hands(bills, many)

    def test_edges_of_bills_and_many(self):
        self.assertEqual(through_hands(10 ** 6, 10 ** 6), 12970034)
        self.assertEqual(through_hands(MOST, 10 ** 6), 13392727722864223719)
        self.assertEqual(through_hands(0, 10 ** 6), 0)
        self.assertEqual(through_hands(10, 3), 10)
        self.assertEqual(through_hands(0, 1), 0)
        self.assertEqual(through_hands(1, 10 ** 6), 0)
        self.assertEqual(through_hands(10 ** 6, 1), 500000)
        for bills in (0, 1, 10 ** 6, MOST):
            self.assertRaises(NoMany, through_hands, bills, 10 ** 6 + 1)


class ThroughHandsByAPlainSum(unittest.TestCase):
    def hold(self, bills, chosen):
        """Hold the answers for the chosen many, in no order, against the plain sum."""
        chosen = [many for many in chosen if 1 <= many <= 10 ** 6]
        sums = coming_by_coming(bills, max(chosen))
        for many in chosen:
            self.assertEqual(through_hands(bills, many), sums[many], (bills, many))

    def test_all_bills_and_many_up_to_some_hundreds(self):
        for bills in range(0, 321):
            self.hold(bills, range(1, 331))

    def test_bills_about_a_product_of_two_near_numbers(self):
        for one in list(range(18, 40)) + [99, 100, 316, 317, 999, 1000, 1001]:
            for other in (one, one + 1, one + 2):
                near = [side + off for side in (one, other) for off in range(-3, 4)]
                for bills in (one * other - 1, one * other, one * other + 1):
                    self.hold(bills, near + [1, one // 2, 2 * one, 3 * other])

    def test_bills_about_themselves(self):
        for bills in (399, 400, 401, 9999, 10100, 65535, 65536, 99856):
            self.hold(bills, [bills // 3, bills // 2 - 1, bills // 2, bills - 2, bills - 1, bills, bills + 1, 2 * bills])

    def test_great_products_of_two_near_numbers(self):
        for one, other in [(31622, 31623), (99999, 100001), (10 ** 5, 10 ** 5)]:
            for bills in (one * other - 1, one * other, one * other + 1):
                self.hold(bills, [one - 2, one - 1, one, other, other + 1, 2 * one])

    def test_as_many_as_can_come_to_about_their_square(self):
        for bills in (10 ** 12 - 1, 10 ** 12, (10 ** 6 + 1) ** 2 - 1, (10 ** 6 + 1) ** 2):
            self.hold(bills, [10 ** 6 - 1, 10 ** 6])

    def test_great_bills_and_many_up_to_some_thousands(self):
        for bills in (10 ** 7, 3163 ** 2 - 1, 10 ** 9 + 7, 10 ** 12 - 1, 10 ** 15, MOST - 1, MOST):
            self.hold(bills, list(range(1, 5001, 61)) + list(range(3155, 3170)) + [4999, 5000])

    def test_by_chance(self):
        chance = chance_of(88)
        for _ in range(60):
            bills = chance.randint(0, 10 ** chance.randint(1, 18))
            self.hold(bills, [chance.randint(1, 10 ** chance.randint(1, 4)) for _ in range(20)])


class ThroughHandsPace(unittest.TestCase):
    def test_a_million_come_to_a_million_within_some_milliseconds(self):
        # The shortest of several times, so that other work on the machine does not count.
        times = []
        for _ in range(5):
            start = time.process_time()
            through_hands(10 ** 6, 10 ** 6)
            times.append(time.process_time() - start)
        self.assertLess(min(times), 0.005)


class MustHand(unittest.TestCase):
    def test_told_words(self):
        self.assertEqual(must_hand(100, 1), 50)
        self.assertEqual(must_hand(101, 1), 50)
        self.assertEqual(must_hand(100, 2), 33)
        self.assertEqual(must_hand(3, 3), 0)
        self.assertEqual(must_hand(4, 3), 1)
        self.assertEqual(must_hand(0, 40), 0)
        self.assertEqual(must_hand(40, 40), 0)
        self.assertEqual(must_hand(41, 40), 1)
        self.assertEqual(must_hand(MOST, 1), MOST // 2)
        self.assertEqual(must_hand(MOST, 40), 24390243902439024)

    def test_through_all_ways(self):
        for many in range(1, 5):
            for bills in range(0, 26):
                least = must_hand(bills, many)
                for before in alike(bills, many):
                    ways = list(alike(bills, many + 1))
                    # Who comes had paid nothing: all they have paid in the end they must have handed.
                    self.assertEqual(min(after[-1] for after in ways), least)
                    moved = [sum(max(0, new - old) for old, new in zip(before + [0], after)) for after in ways]
                    self.assertEqual(min(moved), least)

    def test_no_less_than_what_is_handed(self):
        for bills in list(range(0, 90)) + [999, MOST - 1, MOST]:
            for many in range(1, 40):
                told = come_handed((bills, folk_of(many)), "new")
                self.assertEqual(sum(cents for _, _, cents in told), must_hand(bills, many))

    def test_edges(self):
        for bills, many in [(5, 0), (5, 41), (0, 0), (0, 41), (5, -1), (MOST, 10 ** 6)]:
            with self.subTest((bills, many)), self.assertRaises(NoMany):
                must_hand(bills, many)
        for bills, many in [(MOST + 1, 1), (-1, 1), (MOST + 1, 41), (-1, 0)]:
            with self.subTest((bills, many)), self.assertRaises(NoCents):
                must_hand(bills, many)


class Refusals(unittest.TestCase):
    def test_no_cents_go_first(self):
        for thing in WRONG_CENTS:
            for many in (1, 40, 0, 10 ** 6 + 1, None, True, "x", []):
                with self.subTest((thing, many)):
                    self.assertRaises(NoCents, through_hands, thing, many)
                    self.assertRaises(NoCents, must_hand, thing, many)

    def test_no_many(self):
        for thing in WRONG_MANY:
            for bills in (0, 1, MOST):
                with self.subTest((bills, thing)):
                    self.assertRaises(NoMany, through_hands, bills, thing)
                    self.assertRaises(NoMany, must_hand, bills, thing)

    def test_wrong_things_stay_as_they_are(self):
        for thing in WRONG_CENTS + WRONG_MANY:
            kept = copy.deepcopy(thing)
            for ask in (least_many, through_hands, must_hand):
                for arguments in [(thing, 1), (5, thing), (thing, thing)]:
                    try:
                        ask(*arguments)
                    except ClubError:
                        pass
            self.assertEqual(thing, kept)

    def test_whole_numbers_are_told(self):
        for told in [least_many(0, 1), least_many(5, 2), through_hands(0, 1), through_hands(5, 2), must_hand(1, 1)]:
            self.assertIs(type(told), int)


if __name__ == "__main__":
    unittest.main()
