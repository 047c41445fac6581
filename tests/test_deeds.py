"""Points 2, 3, 6 and 7: rows of deeds, done once and again and again."""

import copy
import unittest

from paidback.clubs import bill_handed, come_handed, go_handed, is_state, paid
from paidback.deeds import again, behind, handed
from paidback.errors import NoDeeds, NoState, NoTimes
from tests.samples import MOST, STATES, WRONG_DEEDS, WRONG_STATES, WRONG_TIMES, chance_of, folk_of, random_row

# A state, and a row with a deed that is not possible when its turn comes.
NOT_POSSIBLE = [
    ((0, ("a",)), [("come", "a")]),
    ((5, ("a", "b")), [("go", "a"), ("come", "b")]),
    ((0, ()), [("come", "a"), ("come", "a")]),
    ((0, ()), [("go", "a")]),
    ((5, ("a", "b")), [("go", "c")]),
    ((5, ("a", "b")), [("go", "a"), ("go", "a")]),
    ((0, ()), [("bill", 1)]),
    ((0, ()), [("bill", 0)]),
    ((0, ("a",)), [("go", "a"), ("bill", 0)]),
    ((MOST, ("a",)), [("bill", 1)]),
    ((1, ("a",)), [("bill", MOST)]),
    ((0, ("a",)), [("bill", MOST), ("bill", 0), ("bill", 1)]),
    ((0, folk_of(40)), [("come", "new")]),
    ((9, folk_of(39)), [("come", "new"), ("come", "newer")]),
    ((1, ("a",)), [("go", "a")]),
    ((0, ("a",)), [("bill", 1), ("go", "a")]),
    ((2, ("a", "b")), [("go", "a"), ("go", "b")]),
    ((0, ()), [("bill", 1), ("come", "a")]),
    ((0, ("a",)), [("bill", 0)] * 99 + [("go", "b")]),
    ((0, ("a",)), [("go", "b")] + [("bill", 0)] * 99),
]


class Behind(unittest.TestCase):
    def test_told_words(self):
        row = [("come", "b"), ("bill", 100), ("come", "a"), ("go", "b"), ("come", "c"), ("bill", 1)]
        self.assertEqual(behind((0, ()), row), (101, ("a", "c")))
        self.assertEqual(behind((7, ("z", "y")), [("go", "z"), ("come", "z")]), (7, ("y", "z")))

    def test_no_deeds(self):
        for state in STATES:
            self.assertEqual(behind(state, []), state)

    def test_a_hundred_deeds_and_one_more(self):
        self.assertEqual(behind((0, ("a",)), [("bill", 2)] * 100), (200, ("a",)))
        with self.assertRaises(NoDeeds):
            behind((0, ("a",)), [("bill", 2)] * 101)

    def test_up_to_the_edges(self):
        self.assertEqual(behind((0, ("a",)), [("bill", MOST), ("bill", 0)]), (MOST, ("a",)))
        self.assertEqual(behind((MOST - 1, ("a",)), [("bill", 1)]), (MOST, ("a",)))
        self.assertEqual(behind((4, folk_of(39)), [("come", "new")]), (4, folk_of(39) + ("new",)))
        self.assertEqual(behind((4, folk_of(40)), [("go", "aa"), ("come", "aa")]), (4, folk_of(40)[1:] + ("aa",)))
        self.assertEqual(behind((0, ("a",)), [("bill", 0), ("go", "a")]), (0, ()))
        self.assertEqual(behind((0, ()), [("come", "abcdefgh")]), (0, ("abcdefgh",)))

    def test_not_possible(self):
        for state, row in NOT_POSSIBLE:
            with self.subTest((state, row)):
                self.assertIs(behind(state, row), None)

    def test_any_row(self):
        for seed in range(60):
            chance = chance_of(seed)
            start = chance.choice(STATES[:11])
            row, last = random_row(chance, start, 100, chance.choice([0, 1, 50, 10 ** 15]))
            told = behind(start, row)
            self.assertEqual(told, last)
            self.assertIs(is_state(told), True)


class Handed(unittest.TestCase):
    def test_told_words(self):
        row = [("come", "b"), ("bill", 100), ("come", "a"), ("go", "b"), ("bill", 5)]
        self.assertEqual(handed((0, ()), row), [("a", "", 5), ("a", "b", 100), ("b", "", 100)])

    def test_each_two_and_way_by_itself(self):
        row = [("come", "b"), ("go", "b"), ("come", "b"), ("go", "a")]
        self.assertEqual(handed((10, ("a",)), row), [("a", "b", 5), ("b", "a", 15)])

    def test_nothing_handed(self):
        for state in STATES:
            self.assertEqual(handed(state, []), [])
        self.assertEqual(handed((0, ()), [("come", "a"), ("come", "b"), ("bill", 0), ("go", "a"), ("go", "b")]), [])

    def test_a_hundred_deeds_and_one_more(self):
        self.assertEqual(handed((0, ("b", "a")), [("bill", 1)] * 100), [("a", "", 50), ("b", "", 50)])
        with self.assertRaises(NoDeeds):
            handed((0, ("b", "a")), [("bill", 1)] * 101)

    def test_not_possible(self):
        for state, row in NOT_POSSIBLE:
            with self.subTest((state, row)):
                self.assertIs(handed(state, row), None)

    def summed(self, state, row):
        sums = {}
        for at, (word, what) in enumerate(row):
            ask = {"bill": bill_handed, "come": come_handed, "go": go_handed}[word]
            for giver, taker, cents in ask(behind(state, row[:at]), what):
                sums[giver, taker] = sums.get((giver, taker), 0) + cents
        return sorted((giver, taker, cents) for (giver, taker), cents in sums.items())

    def test_any_row(self):
        for seed in range(40):
            chance = chance_of(seed)
            start = chance.choice(STATES[:11])
            row, last = random_row(chance, start, 100, chance.choice([0, 1, 50, 10 ** 15]))
            told = handed(start, row)
            self.assertEqual(told, self.summed(start, row))
            self.assertTrue(all(cents > 0 for _, _, cents in told))
            purse = dict(paid(start))
            for giver, taker, cents in told:
                purse[giver] = purse.get(giver, 0) + cents
                purse[taker] = purse.get(taker, 0) - cents
            self.assertEqual(paid(last), sorted((name, purse.get(name, 0)) for name in last[1]))


class Again(unittest.TestCase):
    def test_told_words(self):
        row = [("bill", 3), ("come", "c"), ("bill", 2), ("go", "c")]
        self.assertEqual(again((1, ("a", "b")), row, 1), (6, ("a", "b")))
        self.assertEqual(again((1, ("a", "b")), row, 7), (36, ("a", "b")))

    def test_no_deeds(self):
        for state in STATES:
            for times in (1, 2, MOST):
                self.assertEqual(again(state, [], times), state)

    def test_up_to_the_most(self):
        self.assertEqual(again((0, ("a",)), [("bill", 1)], MOST), (MOST, ("a",)))
        self.assertEqual(again((1, ("a",)), [("bill", 1)], MOST - 1), (MOST, ("a",)))
        self.assertIs(again((1, ("a",)), [("bill", 1)], MOST), None)
        self.assertIs(again((0, ("a",)), [("bill", 1), ("bill", 1)], MOST), None)
        self.assertEqual(again((0, ("a",)), [("bill", 1), ("bill", 1)], MOST // 2), (MOST, ("a",)))
        self.assertIs(again((0, ("a",)), [("bill", MOST)], MOST), None)
        self.assertEqual(again((0, ("a",)), [("bill", MOST)], 1), (MOST, ("a",)))
        self.assertIs(again((0, ("a",)), [("bill", MOST)], 2), None)
        self.assertIs(again((0, ("a",)), [("bill", MOST // 3)], 4), None)
        self.assertEqual(again((0, ("a",)), [("bill", MOST // 3)], 3), (MOST - 1, ("a",)))
        self.assertEqual(again((MOST, folk_of(40)), [("bill", 0)] * 100, MOST), (MOST, folk_of(40)))

    def test_the_least_and_the_most_times(self):
        for times in (0, MOST + 1):
            with self.assertRaises(NoTimes):
                again((0, ("a",)), [], times)

    def test_other_folk(self):
        for times in (1, 2, MOST):
            self.assertIs(again((5, ("a", "b")), [("go", "b")], times), None)
            self.assertIs(again((5, ("a", "b")), [("come", "c")], times), None)
            self.assertIs(again((5, ("a", "b")), [("go", "b"), ("come", "c")], times), None)
            self.assertIs(again((0, ()), [("come", "a")], times), None)

    def test_the_same_folk_in_another_order(self):
        for times in (1, 2, MOST):
            self.assertIs(again((5, ("a", "b")), [("go", "a"), ("come", "a")], times), None)
        # Twice written out leads back, so the longer row can be done again.
        row = [("go", "a"), ("come", "a"), ("go", "b"), ("come", "b")]
        self.assertEqual(again((5, ("a", "b")), row, MOST), (5, ("a", "b")))

    def test_back_to_the_same(self):
        row = [("go", "b"), ("come", "c"), ("bill", 2), ("go", "c"), ("come", "b")]
        self.assertEqual(again((5, ("a", "b")), row, 10 ** 17), (5 + 2 * 10 ** 17, ("a", "b")))

    def test_not_possible_the_first_time(self):
        for state, row in NOT_POSSIBLE:
            for times in (1, 2, MOST):
                with self.subTest((state, row, times)):
                    self.assertIs(again(state, row, times), None)

    def test_not_possible_a_later_time(self):
        row = [("go", "a"), ("come", "a"), ("bill", 5)]
        self.assertEqual(again((0, ("a",)), row, 1), (5, ("a",)))
        self.assertIs(again((0, ("a",)), row, 2), None)
        self.assertIs(again((0, ("a",)), row, MOST), None)
        row = [("go", "b"), ("go", "a"), ("come", "a"), ("come", "b"), ("bill", 1)]
        self.assertEqual(again((0, ("a", "b")), row, 1), (1, ("a", "b")))
        self.assertIs(again((0, ("a", "b")), row, 2), None)

    def test_a_last_one_without_bills(self):
        row = [("go", "a"), ("come", "a"), ("bill", 0)]
        self.assertEqual(again((0, ("a",)), row, MOST), (0, ("a",)))
        self.assertEqual(again((0, ()), [("come", "a"), ("bill", 0), ("go", "a")], MOST), (0, ()))
        self.assertIs(again((1, ("a",)), row, 1), None)

    def test_as_done_one_by_one(self):
        for seed in range(400):
            chance = chance_of(seed)
            start = chance.choice([(0, ()), (0, ("a",)), (3, ("a",)), (0, ("b", "a")), (MOST - 9, ("b", "a", "c"))])
            row, last = random_row(chance, start, chance.randint(1, 5), chance.choice([0, 1, 3]))
            row += [("go", name) for name in last[1] if name not in start[1]]
            row += [("come", name) for name in start[1] if name not in last[1]]
            state = start
            for times in range(1, 8):
                state = behind(state, row) if state is not None else None
                if state is not None and state[1] != start[1]:
                    state = None
                self.assertEqual(again(start, row, times), state, (start, row, times))


class Refusals(unittest.TestCase):
    def test_no_state_goes_first(self):
        for thing in WRONG_STATES:
            for deeds in ([], None, (), [("bill", -1)], [("go", "nobody")]):
                with self.subTest((thing, deeds)):
                    self.assertRaises(NoState, behind, thing, deeds)
                    self.assertRaises(NoState, handed, thing, deeds)
                    for times in (1, 0, None):
                        self.assertRaises(NoState, again, thing, deeds, times)

    def test_no_deeds_go_next(self):
        for state in [(0, ()), (5, ("a", "b"))]:
            for thing in WRONG_DEEDS:
                with self.subTest((state, thing)):
                    self.assertRaises(NoDeeds, behind, state, thing)
                    self.assertRaises(NoDeeds, handed, state, thing)
                    for times in (1, 0, MOST + 1, None, True, "x", []):
                        self.assertRaises(NoDeeds, again, state, thing, times)

    def test_no_times_go_last(self):
        for state, row in [((0, ("a",)), []), ((0, ("a",)), [("bill", 1)]), ((0, ()), [("come", "a")])] + NOT_POSSIBLE:
            for thing in WRONG_TIMES:
                with self.subTest((state, row, thing)):
                    self.assertRaises(NoTimes, again, state, row, thing)


class Handling(unittest.TestCase):
    """Point 2: nothing handed in is changed, and what is told is the asker's own."""

    def test_deeds_stay_as_they_are(self):
        row = [("come", "c"), ("bill", 7), ("go", "c")]
        kept = copy.deepcopy(row)
        behind((5, ("a", "b")), row)
        handed((5, ("a", "b")), row)
        again((5, ("a", "b")), row, 5)
        self.assertEqual(row, kept)

    def test_wrong_things_stay_as_they_are(self):
        for thing in WRONG_DEEDS + WRONG_STATES + WRONG_TIMES:
            kept = copy.deepcopy(thing)
            for ask, arguments in [(behind, (thing, [])), (behind, ((0, ()), thing)), (handed, ((0, ()), thing)),
                                   (again, ((0, ()), thing, 1)), (again, ((0, ()), [], thing))]:
                try:
                    ask(*arguments)
                except (NoState, NoDeeds, NoTimes):
                    pass
            self.assertEqual(thing, kept)

    def test_lists_are_the_askers_own(self):
        for row in ([], [("come", "c"), ("bill", 7), ("go", "c")]):
            told = handed((5, ("a", "b")), row)
            kept = list(told)
            self.assertIs(type(told), list)
            told.append("mine")
            told.reverse()
            self.assertEqual(handed((5, ("a", "b")), row), kept)

    def test_a_row_changed_later_changes_no_answer(self):
        row = [("bill", 7)]
        told = handed((5, ("a",)), row)
        state = behind((5, ("a",)), row)
        row.append(("bill", 1))
        self.assertEqual((told, state), ([("a", "", 7)], (12, ("a",))))
        self.assertEqual(behind((5, ("a",)), row), (13, ("a",)))


if __name__ == "__main__":
    unittest.main()
