"""Points 2, 3 and 13: a club kept, deed by deed."""

import copy
import unittest

from paidback.clubs import bill_handed, come_handed, go_handed, is_state, paid
from paidback.deeds import behind, handed
from paidback.errors import ClubError, Full, LastOne, NoCents, NoName, Nobody, NotIn, NothingLeft, TooMuch, Twice
from paidback.kept import Club
from tests.samples import MOST, NEVER, WRONG_CENTS, WRONG_NAMES, chance_of, folk_of, random_row

START = (0, ())


def do(club, deed):
    word, what = deed
    return {"bill": club.bill, "come": club.come, "go": club.go}[word](what)


def club_of(row):
    club = Club()
    for deed in row:
        do(club, deed)
    return club


def told_of(club):
    """All that a club tells."""
    return club.state(), club.paid(), club.handed(), len(club)


def full_club():
    return club_of([("come", name) for name in folk_of(40)])


class Deeds(unittest.TestCase):
    def test_at_first(self):
        self.assertEqual(told_of(Club()), (START, [], [], 0))

    def test_told_words(self):
        club = Club()
        self.assertEqual(club.come("zoe"), [])
        self.assertEqual(club.bill(100), [("zoe", "", 100)])
        self.assertEqual(club.come("ann"), [("ann", "zoe", 50)])
        self.assertEqual(club.come("bob"), [("bob", "ann", 17), ("bob", "zoe", 16)])
        self.assertEqual(club.state(), (100, ("zoe", "ann", "bob")))
        self.assertEqual(club.paid(), [("ann", 33), ("bob", 33), ("zoe", 34)])
        self.assertEqual(club.go("zoe"), [("ann", "zoe", 17), ("bob", "zoe", 17)])
        self.assertEqual(club.bill(1), [("ann", "", 1)])
        self.assertEqual(club.state(), (101, ("ann", "bob")))
        self.assertEqual(club.paid(), [("ann", 51), ("bob", 50)])
        self.assertEqual(club.handed(), [
            ("ann", "", 1), ("ann", "zoe", 67), ("bob", "ann", 17), ("bob", "zoe", 33), ("zoe", "", 100),
        ])
        self.assertEqual(len(club), 2)

    def test_each_way_stands_by_itself(self):
        club = club_of([("come", "a"), ("bill", 100), ("come", "b"), ("go", "a"), ("come", "a")])
        self.assertEqual(club.handed(), [("a", "", 100), ("a", "b", 50), ("b", "a", 100)])

    def test_bills_of_nothing(self):
        club = club_of([("come", "b"), ("come", "a")])
        self.assertEqual(club.bill(0), [])
        self.assertEqual(told_of(club), ((0, ("b", "a")), [("a", 0), ("b", 0)], [], 2))

    def test_up_to_forty(self):
        club = Club()
        for many, name in enumerate(folk_of(40)):
            self.assertEqual(len(club), many)
            club.come(name)
        self.assertEqual(len(club), 40)
        self.assertEqual(club.state(), (0, folk_of(40)))
        with self.assertRaises(Full):
            club.come("new")
        club.go(folk_of(40)[3])
        self.assertEqual(club.come("new"), [])
        self.assertEqual(len(club), 40)

    def test_up_to_the_greatest_bills(self):
        club = club_of([("come", "a")])
        self.assertEqual(club.bill(MOST), [("a", "", MOST)])
        self.assertEqual(club.bill(0), [])
        for cents in (1, 2, MOST):
            with self.assertRaises(TooMuch):
                club.bill(cents)
        self.assertEqual(club.state(), (MOST, ("a",)))
        club = club_of([("come", "a"), ("bill", MOST - 1)])
        self.assertRaises(TooMuch, club.bill, 2)
        self.assertEqual(club.bill(1), [("a", "", 1)])

    def test_nobody_is_in(self):
        for club in (Club(), club_of([("come", "a"), ("go", "a")])):
            for cents in (0, 1, MOST):
                with self.assertRaises(Nobody):
                    club.bill(cents)
            self.assertEqual(club.state(), START)

    def test_the_last_one(self):
        club = club_of([("come", "a"), ("bill", 0)])
        self.assertEqual(club.go("a"), [])
        self.assertEqual(club.state(), START)
        self.assertEqual(club.come("a"), [])
        club.bill(1)
        with self.assertRaises(LastOne):
            club.go("a")
        self.assertEqual(club.state(), (1, ("a",)))
        club.come("b")
        self.assertEqual(club.go("a"), [("b", "a", 1)])
        with self.assertRaises(LastOne):
            club.go("b")
        with self.assertRaises(NotIn):
            club.go("a")

    def test_as_told_of_rows(self):
        for seed in range(30):
            chance = chance_of(seed)
            row, last = random_row(chance, START, 100, chance.choice([0, 1, 50, 10 ** 15]))
            club = Club()
            for at, deed in enumerate(row):
                word, what = deed
                state = club.state()
                ask = {"bill": bill_handed, "come": come_handed, "go": go_handed}[word]
                self.assertEqual(do(club, deed), ask(state, what))
                self.assertTrue(is_state(club.state()))
                self.assertEqual(club.state(), behind(START, row[:at + 1]))
                self.assertEqual(club.handed(), handed(START, row[:at + 1]))
                self.assertEqual(club.paid(), paid(club.state()))
                self.assertEqual(len(club), len(club.state()[1]))
            self.assertEqual(club.state(), last)

    def test_more_than_a_hundred_deeds(self):
        club = club_of([("come", "a"), ("come", "b")] + [("bill", 3)] * 500)
        self.assertEqual(club.state(), (1500, ("a", "b")))
        self.assertEqual(club.handed(), [("a", "", 750), ("b", "", 750)])
        for _ in range(502):
            club.back()
        self.assertEqual(told_of(club), (START, [], [], 0))

    def test_what_was_paid_hangs_on_bills_and_order_alone(self):
        for seed in range(20):
            row, last = random_row(chance_of(seed), START, 60, 500)
            plain = club_of([("come", name) for name in last[1]])
            if last[1]:
                plain.bill(last[0])
            self.assertEqual(club_of(row).paid(), plain.paid())


class Back(unittest.TestCase):
    def test_nothing_left_at_first(self):
        club = Club()
        for _ in range(2):
            with self.assertRaises(NothingLeft):
                club.back()
        self.assertEqual(told_of(club), (START, [], [], 0))

    def test_none_is_told(self):
        club = club_of([("come", "a"), ("bill", 5)])
        self.assertIs(club.back(), None)
        self.assertIs(club.back(), None)

    def test_each_kind_of_deed(self):
        row = [("come", "a"), ("bill", 100), ("come", "b"), ("go", "a"), ("bill", 0), ("come", "a"), ("go", "b")]
        for many in range(1, len(row) + 1):
            club = club_of(row[:many])
            club.back()
            self.assertEqual(told_of(club), told_of(club_of(row[:many - 1])))

    def test_a_bill_of_nothing_is_a_deed(self):
        club = club_of([("come", "a"), ("bill", 0)])
        club.back()
        self.assertEqual(club.state(), (0, ("a",)))
        club.back()
        self.assertEqual(club.state(), START)

    def test_who_went_stands_where_they_stood(self):
        club = club_of([("come", "c"), ("come", "a"), ("come", "b"), ("bill", 7), ("go", "c")])
        club.back()
        self.assertEqual(club.state(), (7, ("c", "a", "b")))

    def test_step_by_step_to_the_very_first(self):
        for seed in range(20):
            chance = chance_of(seed)
            row, _ = random_row(chance, START, 60, chance.choice([0, 2, 1000, 10 ** 15]))
            club = Club()
            past = [told_of(club)]
            for deed in row:
                do(club, deed)
                past.append(told_of(club))
            while len(past) > 1:
                self.assertEqual(told_of(club), past.pop())
                club.back()
            self.assertEqual(told_of(club), (START, [], [], 0))
            self.assertEqual(club, Club())
            with self.assertRaises(NothingLeft):
                club.back()

    def test_back_and_on_again(self):
        club = club_of([("come", "a"), ("bill", 9), ("come", "b")])
        club.back()
        club.back()
        self.assertEqual(club.bill(5), [("a", "", 5)])
        self.assertEqual(club.come("c"), [("c", "a", 2)])
        self.assertEqual(told_of(club), told_of(club_of([("come", "a"), ("bill", 5), ("come", "c")])))
        for _ in range(3):
            club.back()
        self.assertRaises(NothingLeft, club.back)

    def test_what_is_taken_back_may_be_done_again(self):
        club = club_of([("come", "a"), ("bill", MOST)])
        club.back()
        self.assertEqual(club.bill(MOST), [("a", "", MOST)])
        club = full_club()
        club.back()
        self.assertEqual(club.come("new"), [])
        club = club_of([("come", "a"), ("bill", 1)])
        self.assertRaises(LastOne, club.go, "a")
        club.back()
        self.assertEqual(club.go("a"), [])

    def test_mingled_with_deeds(self):
        for seed in range(20):
            chance = chance_of(seed)
            club, row = Club(), []
            for _ in range(120):
                if row and chance.random() < 0.4:
                    club.back()
                    row.pop()
                else:
                    more, _ = random_row(chance, club.state(), 1, 100)
                    for deed in more:
                        do(club, deed)
                    row += more
                self.assertEqual(club, club_of(row))
                self.assertEqual(told_of(club), told_of(club_of(row)))


class Refusals(unittest.TestCase):
    def clubs(self):
        return [
            Club(), club_of([("come", "a")]), club_of([("come", "b"), ("bill", 5), ("come", "a")]),
            club_of([("come", "a"), ("bill", MOST)]), full_club(),
        ]

    def refused(self, club, error, ask, *arguments):
        """The refusal is told, and the club is as it was, also in what can be taken back."""
        kept = told_of(club)
        with self.subTest((kept[0], ask.__name__, arguments)):
            self.assertRaises(error, ask, *arguments)
            self.assertEqual(told_of(club), kept)

    def test_no_cents(self):
        for club in self.clubs():
            for thing in WRONG_CENTS:
                self.refused(club, NoCents, club.bill, thing)

    def test_no_name(self):
        for club in self.clubs():
            for thing in WRONG_NAMES:
                self.refused(club, NoName, club.come, thing)
                self.refused(club, NoName, club.go, thing)

    def test_twice_and_its_field(self):
        for club in self.clubs():
            for name in club.state()[1]:
                with self.assertRaises(Twice) as caught:
                    club.come(name)
                self.assertEqual(caught.exception.name, name)

    def test_not_in_and_its_field(self):
        for club in self.clubs():
            for name in ("z", "new", "abcdefgh"):
                with self.assertRaises(NotIn) as caught:
                    club.go(name)
                self.assertEqual(caught.exception.name, name)

    def test_which_goes_first(self):
        club = full_club()
        self.refused(club, Twice, club.come, folk_of(40)[0])
        self.refused(club, Twice, club.come, folk_of(40)[39])
        self.refused(club, Full, club.come, "new")
        self.refused(club, NoName, club.come, "NEW")
        club = Club()
        self.refused(club, NoCents, club.bill, MOST + 1)
        self.refused(club, NoCents, club.bill, -1)
        self.refused(club, Nobody, club.bill, MOST)
        self.refused(club, NotIn, club.go, "a")
        club = club_of([("come", "a"), ("bill", MOST)])
        self.refused(club, NoCents, club.bill, MOST + 1)
        self.refused(club, TooMuch, club.bill, MOST)
        self.refused(club, NotIn, club.go, "b")
        self.refused(club, LastOne, club.go, "a")

    def test_a_refusal_between_two_deeds_changes_nothing(self):
        row = [("come", "a"), ("bill", 7), ("come", "b"), ("bill", 4), ("go", "a")]
        wrong = [("bill", None), ("bill", MOST + 1), ("come", "A"), ("go", ["a"]), ("go", "nobody"), ("come", 5)]
        club = Club()
        self.assertRaises(NothingLeft, club.back)
        self.assertRaises(Nobody, club.bill, 5)
        for at, deed in enumerate(row):
            do(club, deed)
            bills, folk = club.state()
            for other in wrong + [("come", folk[0]), ("bill", MOST - bills + 1)]:
                self.assertRaises(ClubError, do, club, other)
            self.assertEqual(told_of(club), told_of(club_of(row[:at + 1])))
        self.assertRaises(LastOne, club.go, "b")
        for many in reversed(range(len(row))):
            club.back()
            self.assertEqual(told_of(club), told_of(club_of(row[:many])))
        self.assertRaises(NothingLeft, club.back)


class Equality(unittest.TestCase):
    def test_equal_clubs(self):
        row = [("come", "a"), ("bill", 7), ("come", "b")]
        self.assertTrue(Club() == Club())
        self.assertFalse(Club() != Club())
        self.assertTrue(club_of(row) == club_of(row))
        self.assertFalse(club_of(row) != club_of(row))
        self.assertIs(Club() == Club(), True)

    def test_by_other_ways(self):
        one = club_of([("come", "a"), ("bill", 7), ("bill", 3)])
        other = club_of([("come", "a"), ("bill", 10)])
        self.assertTrue(one == other)
        other.bill(0)
        self.assertTrue(one == other)
        other.come("b")
        self.assertFalse(one == other)
        other.back()
        self.assertTrue(one == other)
        # The same was handed, but first by others.
        one = club_of([("come", "a"), ("come", "b"), ("bill", 1), ("bill", 1)])
        other = club_of([("come", "a"), ("come", "b"), ("bill", 2)])
        self.assertTrue(one == other)
        self.assertTrue(Club() == club_of([("come", "a"), ("go", "a")]))

    def test_another_state(self):
        self.assertFalse(Club() == club_of([("come", "a")]))
        self.assertTrue(Club() != club_of([("come", "a")]))
        self.assertFalse(club_of([("come", "a"), ("come", "b")]) == club_of([("come", "b"), ("come", "a")]))
        self.assertFalse(club_of([("come", "a"), ("bill", 1)]) == club_of([("come", "a")]))

    def test_the_same_state_but_other_hands(self):
        one = club_of([("come", "a"), ("bill", 100), ("come", "b")])
        other = club_of([("come", "a"), ("come", "b"), ("bill", 100)])
        self.assertEqual(one.state(), other.state())
        self.assertEqual(one.paid(), other.paid())
        self.assertFalse(one == other)
        self.assertTrue(one != other)
        other = club_of([("come", "a"), ("bill", 100), ("come", "b"), ("go", "b"), ("come", "b")])
        self.assertEqual(one.state(), other.state())
        self.assertFalse(one == other)

    def test_beside_anything_else(self):
        for club in (Club(), club_of([("come", "a")]), club_of([("come", "b"), ("bill", 5), ("come", "a")])):
            for thing in NEVER + [0, 1, [], "a", club.state(), club.paid(), club.handed(), told_of(club), len(club)]:
                with self.subTest(thing):
                    self.assertIs(club == thing, False)
                    self.assertIs(thing == club, False)
                    self.assertIs(club != thing, True)


class Handling(unittest.TestCase):
    """Point 2: what is told is the asker's own, and nothing handed in is changed."""

    def test_lists_are_the_askers_own(self):
        row = [("come", "b"), ("bill", 100), ("come", "a"), ("bill", 3), ("go", "b"), ("bill", 0), ("come", "c")]
        club = Club()
        for deed in row:
            told = do(club, deed)
            self.assertIs(type(told), list)
            told.append(("x", "y", 1))
            told.reverse()
            for ask in (club.paid, club.handed):
                kept = ask()
                self.assertIs(type(kept), list)
                mine = ask()
                mine.clear()
                mine.append("mine")
                self.assertEqual(ask(), kept)
        self.assertEqual(told_of(club), told_of(club_of(row)))
        for many in reversed(range(len(row))):
            club.back()
            self.assertEqual(told_of(club), told_of(club_of(row[:many])))

    def test_a_told_list_does_not_change_later(self):
        club = club_of([("come", "a"), ("bill", 5)])
        lists = [club.paid(), club.handed()]
        kept = copy.deepcopy(lists)
        club.bill(7)
        club.come("b")
        self.assertEqual(lists, kept)

    def test_kinds_of_values(self):
        club = club_of([("come", "b"), ("bill", 100), ("come", "a")])
        state = club.state()
        self.assertEqual([type(state), type(state[0]), type(state[1])], [tuple, int, tuple])
        for triple in club.handed() + club.bill(5):
            self.assertEqual([type(triple)] + [type(part) for part in triple], [tuple, str, str, int])
        for pair in club.paid():
            self.assertEqual([type(pair)] + [type(part) for part in pair], [tuple, str, int])

    def test_clubs_share_nothing(self):
        one, other = Club(), Club()
        one.come("a")
        one.bill(5)
        self.assertEqual(told_of(other), (START, [], [], 0))
        self.assertRaises(NothingLeft, other.back)

    def test_wrong_things_stay_as_they_are(self):
        club = club_of([("come", "a"), ("bill", 5)])
        for thing in WRONG_CENTS + WRONG_NAMES:
            kept = copy.deepcopy(thing)
            for ask in (club.bill, club.come, club.go):
                try:
                    ask(thing)
                except ClubError:
                    pass
            self.assertFalse(club == thing)
            self.assertEqual(thing, kept)


if __name__ == "__main__":
    unittest.main()
