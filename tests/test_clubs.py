"""Points 2 to 5: states, what each has paid, and what is handed by one deed."""

import copy
import unittest

from paidback.clubs import bill_handed, come_handed, go_handed, is_state, paid
from paidback.errors import NoCents, NoName, NoState
from tests.samples import MOST, NEVER, STATES, WRONG_CENTS, WRONG_NAMES, WRONG_STATES
from tests.samples import chance_of, dealt, folk_of, random_row


def less_dealt(more, less):
    return {name: more[name] - less[name] for name in more if name in less and more[name] != less[name]}


class States(unittest.TestCase):
    def test_states(self):
        for state in STATES:
            with self.subTest(state):
                self.assertIs(is_state(state), True)

    def test_edges_of_bills(self):
        self.assertIs(is_state((0, ("a",))), True)
        self.assertIs(is_state((MOST, ("a",))), True)
        self.assertIs(is_state((MOST + 1, ("a",))), False)
        self.assertIs(is_state((-1, ("a",))), False)

    def test_edges_of_names(self):
        for name in ["a", "z", "m", "abcdefgh", "zzzzzzzz", "tuvwxyz"]:
            self.assertIs(is_state((0, (name,))), True, name)
        for name in ["", "abcdefghi", "A", "a`", "a{", "a1", "a b", "Z", "-"]:
            self.assertIs(is_state((0, (name,))), False, name)

    def test_edges_of_folk(self):
        for many in (1, 2, 39, 40):
            self.assertIs(is_state((5, folk_of(many))), True, many)
        self.assertIs(is_state((5, folk_of(41))), False)
        self.assertIs(is_state((0, folk_of(41))), False)

    def test_nobody_in(self):
        self.assertIs(is_state((0, ())), True)
        self.assertIs(is_state((1, ())), False)

    def test_names_are_unlike(self):
        self.assertIs(is_state((5, ("a", "aa", "aaa"))), True)
        self.assertIs(is_state((5, ("a", "aa", "a"))), False)

    def test_none_is_one(self):
        for thing in WRONG_STATES:
            with self.subTest(thing):
                self.assertIs(is_state(thing), False)


class Paid(unittest.TestCase):
    def test_told_words(self):
        self.assertEqual(paid((0, ())), [])
        self.assertEqual(paid((0, ("b", "a"))), [("a", 0), ("b", 0)])
        self.assertEqual(paid((100, ("zoe", "ann", "bob"))), [("ann", 33), ("bob", 33), ("zoe", 34)])
        self.assertEqual(paid((101, ("zoe", "ann", "bob"))), [("ann", 34), ("bob", 33), ("zoe", 34)])

    def test_bills_less_than_the_place(self):
        self.assertEqual(paid((2, ("d", "c", "b", "a"))), [("a", 0), ("b", 0), ("c", 1), ("d", 1)])
        self.assertEqual(paid((1, folk_of(40))), sorted((name, int(name == "aa")) for name in folk_of(40)))

    def test_the_greatest_bills(self):
        self.assertEqual(paid((MOST, ("a",))), [("a", MOST)])
        told = dict(paid((MOST, ("a", "b", "c"))))
        self.assertEqual(told, {"a": MOST // 3 + 1, "b": MOST // 3, "c": MOST // 3})

    def test_as_dealt_cent_by_cent(self):
        for many in (1, 2, 3, 7, 39, 40):
            for bills in range(0, 130):
                told = paid((bills, folk_of(many)))
                self.assertEqual(told, sorted(dealt(bills, folk_of(many)).items()))

    def test_alike_to_a_cent_and_ahead_never_less(self):
        chance = chance_of(3)
        for _ in range(300):
            folk = folk_of(chance.randint(1, 40))
            bills = chance.choice([chance.randint(0, 99), chance.randint(0, MOST), MOST])
            told = dict(paid((bills, folk)))
            row = [told[name] for name in folk]
            self.assertEqual(sum(row), bills)
            self.assertEqual(row, sorted(row, reverse=True))
            self.assertLessEqual(row[0] - row[-1], 1)

    def test_pairs_of_whole_numbers(self):
        for state in STATES:
            for pair in paid(state):
                self.assertEqual([type(pair), type(pair[0]), type(pair[1])], [tuple, str, int])

    def test_no_state(self):
        for thing in WRONG_STATES:
            with self.subTest(thing), self.assertRaises(NoState):
                paid(thing)


class Bills(unittest.TestCase):
    def test_told_words(self):
        self.assertEqual(bill_handed((0, ("a",)), 5), [("a", "", 5)])
        self.assertEqual(bill_handed((1, ("zoe", "ann", "bob")), 3), [("ann", "", 1), ("bob", "", 1), ("zoe", "", 1)])
        self.assertEqual(bill_handed((1, ("zoe", "ann", "bob")), 1), [("ann", "", 1)])

    def test_a_bill_of_nothing(self):
        for state in STATES:
            if state[1]:
                self.assertEqual(bill_handed(state, 0), [])

    def test_up_to_the_most(self):
        self.assertEqual(bill_handed((0, ("a",)), MOST), [("a", "", MOST)])
        self.assertEqual(bill_handed((MOST - 1, ("a",)), 1), [("a", "", 1)])
        self.assertEqual(bill_handed((MOST, ("a",)), 0), [])
        beyond = [((0, ("a",)), MOST + 1), ((MOST, ("a",)), 1), ((1, ("b", "a")), MOST), ((MOST, ("a",)), MOST)]
        for state, cents in beyond:
            with self.subTest((state, cents)), self.assertRaises(NoCents):
                bill_handed(state, cents)

    def test_nobody_in(self):
        for cents in (0, 1, MOST):
            with self.assertRaises(NoCents):
                bill_handed((0, ()), cents)

    def test_as_dealt(self):
        for many in (1, 2, 5, 40):
            for bills in (0, 1, 2, 39, 40, 41, 83):
                for cents in (0, 1, 3, 40, 77):
                    folk = folk_of(many)
                    more = less_dealt(dealt(bills + cents, folk), dealt(bills, folk))
                    want = sorted((name, "", more[name]) for name in more)
                    self.assertEqual(bill_handed((bills, folk), cents), want)

    def test_wrong_cents(self):
        for state in STATES:
            for thing in WRONG_CENTS:
                with self.subTest((state, thing)), self.assertRaises(NoCents):
                    bill_handed(state, thing)

    def test_no_state_goes_first(self):
        for thing in WRONG_STATES:
            for cents in (0, 5, -1, None, True, "x", [], MOST + 1):
                with self.subTest((thing, cents)), self.assertRaises(NoState):
                    bill_handed(thing, cents)


class Comings(unittest.TestCase):
    def test_told_words(self):
        self.assertEqual(come_handed((100, ("a",)), "b"), [("b", "a", 50)])
        self.assertEqual(come_handed((100, ("z", "b")), "m"), [("m", "b", 17), ("m", "z", 16)])
        self.assertEqual(come_handed((3, ("c", "b", "a")), "d"), [])
        self.assertEqual(come_handed((4, ("c", "b", "a")), "d"), [("d", "c", 1)])

    def test_the_first_who_comes(self):
        self.assertEqual(come_handed((0, ()), "a"), [])
        self.assertEqual(come_handed((0, ()), "abcdefgh"), [])

    def test_without_bills(self):
        self.assertEqual(come_handed((0, ("a", "b")), "c"), [])

    def test_who_comes_as_the_fortieth(self):
        told = come_handed((MOST, folk_of(39)), "new")
        self.assertEqual(sum(cents for _, _, cents in told), MOST // 40)
        self.assertEqual(len(told), 39)

    def test_forty_are_in(self):
        for state in [(0, folk_of(40)), (MOST, folk_of(40))]:
            for name in ("new", folk_of(40)[0], ""):
                with self.assertRaises(NoName):
                    come_handed(state, name)

    def test_who_is_in(self):
        for name in ("zoe", "ann", "bob"):
            with self.assertRaises(NoName):
                come_handed((100, ("zoe", "ann", "bob")), name)

    def test_as_dealt(self):
        for many in (1, 2, 5, 39):
            for bills in (0, 1, 2, 5, 6, 38, 39, 40, 41, 83, 1000):
                folk = folk_of(many)
                more = less_dealt(dealt(bills, folk), dealt(bills, folk + ("new",)))
                want = sorted(("new", other, more[other]) for other in more)
                self.assertEqual(come_handed((bills, folk), "new"), want)

    def test_wrong_names(self):
        for state in STATES:
            for thing in WRONG_NAMES:
                with self.subTest((state, thing)), self.assertRaises(NoName):
                    come_handed(state, thing)

    def test_no_state_goes_first(self):
        for thing in WRONG_STATES:
            for name in ("new", "a", "", None, True, 5, ["a"]):
                with self.subTest((thing, name)), self.assertRaises(NoState):
                    come_handed(thing, name)


class Goings(unittest.TestCase):
    def test_told_words(self):
        self.assertEqual(go_handed((100, ("a", "b")), "a"), [("b", "a", 50)])
        self.assertEqual(go_handed((100, ("z", "b", "m")), "z"), [("b", "z", 17), ("m", "z", 17)])
        self.assertEqual(go_handed((100, ("z", "b", "m")), "m"), [("b", "m", 17), ("z", "m", 16)])

    def test_those_behind_move_up(self):
        self.assertEqual(go_handed((2, ("d", "c", "b", "a")), "d"), [("b", "d", 1)])
        self.assertEqual(go_handed((2, ("d", "c", "b", "a")), "c"), [("b", "c", 1)])
        self.assertEqual(go_handed((2, ("d", "c", "b", "a")), "b"), [])
        self.assertEqual(go_handed((2, ("d", "c", "b", "a")), "a"), [])

    def test_the_last_one(self):
        self.assertEqual(go_handed((0, ("a",)), "a"), [])
        for bills in (1, 5, MOST):
            with self.assertRaises(NoName):
                go_handed((bills, ("a",)), "a")

    def test_who_is_not_in(self):
        for state in [(0, ()), (0, ("a",)), (5, ("a",)), (5, ("a", "c"))]:
            with self.assertRaises(NoName):
                go_handed(state, "b")

    def test_as_dealt(self):
        for many in (2, 3, 5, 40):
            for bills in (0, 1, 2, 5, 6, 38, 39, 40, 41, 83, 1000):
                folk = folk_of(many)
                for place in (0, 1, many // 2, many - 1):
                    stay = folk[:place] + folk[place + 1:]
                    more = less_dealt(dealt(bills, stay), dealt(bills, folk))
                    want = sorted((other, folk[place], more[other]) for other in more)
                    self.assertEqual(go_handed((bills, folk), folk[place]), want)

    def test_wrong_names(self):
        for state in STATES:
            for thing in WRONG_NAMES:
                with self.subTest((state, thing)), self.assertRaises(NoName):
                    go_handed(state, thing)

    def test_no_state_goes_first(self):
        for thing in WRONG_STATES:
            for name in ("new", "a", "", None, True, 5, ["a"]):
                with self.subTest((thing, name)), self.assertRaises(NoState):
                    go_handed(thing, name)


class ThePromise(unittest.TestCase):
    """Point 3: money is carried from hand to hand as told, and all have then paid what is told."""

    def carry(self, purse, told, cause):
        for giver, taker, cents in told:
            self.assertGreater(cents, 0)
            self.assertIs(type(cents), int)
            purse[giver] = purse.get(giver, 0) + cents
            purse[taker] = purse.get(taker, 0) - cents
        if cause[0] == "come":
            self.assertEqual({giver for giver, _, _ in told} - {cause[1]}, set())
        if cause[0] == "go":
            self.assertEqual({taker for _, taker, _ in told} - {cause[1]}, set())
        if cause[0] == "bill":
            self.assertEqual({taker for _, taker, _ in told} - {""}, set())
            self.assertEqual(sum(cents for _, _, cents in told), cause[1])

    def done(self, state, deed):
        bills, folk = state
        word, what = deed
        if word == "bill":
            return bill_handed(state, what), (bills + what, folk)
        if word == "come":
            return come_handed(state, what), (bills, folk + (what,))
        return go_handed(state, what), (bills, tuple(name for name in folk if name != what))

    def follow(self, seed, most_bill):
        chance = chance_of(seed)
        row, last = random_row(chance, (0, ()), 150, most_bill)
        state, purse = (0, ()), {}
        for deed in row:
            told, state = self.done(state, deed)
            self.assertEqual(told, sorted(told))
            self.carry(purse, told, deed)
            self.assertEqual(paid(state), sorted((name, purse.get(name, 0)) for name in state[1]))
            self.assertTrue(all(purse[name] == 0 for name in purse if name and name not in state[1]))
        self.assertEqual(state, last)

    def test_any_comings_goings_and_bills(self):
        for seed in range(12):
            self.follow(seed, [0, 1, 5, 1000, 10 ** 15][seed % 5])

    def test_more_folk_pay_no_more_and_greater_bills_no_less(self):
        for bills in (0, 1, 2, 17, 39, 40, 41, 1000):
            for many in range(1, 40):
                told = dict(paid((bills, folk_of(many))))
                more_folk = dict(paid((bills, folk_of(many + 1))))
                more_bills = dict(paid((bills + 1, folk_of(many))))
                self.assertTrue(all(more_folk[name] <= told[name] <= more_bills[name] for name in told))


class Handling(unittest.TestCase):
    """Point 2: nothing handed in is changed, and what is told is the asker's own."""

    def asked(self):
        return [
            (paid, ((100, ("zoe", "ann", "bob")),)),
            (bill_handed, ((100, ("zoe", "ann", "bob")), 10)),
            (come_handed, ((100, ("zoe", "ann", "bob")), "new")),
            (go_handed, ((100, ("zoe", "ann", "bob")), "zoe")),
            (paid, ((0, ()),)),
            (come_handed, ((0, ()), "a")),
            (go_handed, ((0, ("a",)), "a")),
            (bill_handed, ((0, ("a",)), 0)),
        ]

    def test_lists_are_the_askers_own(self):
        for ask, arguments in self.asked():
            told = ask(*arguments)
            kept = list(told)
            self.assertIs(type(told), list)
            told.append("mine")
            told.reverse()
            self.assertEqual(ask(*arguments), kept)
            self.assertIsNot(ask(*arguments), ask(*arguments))

    def test_wrong_things_stay_as_they_are(self):
        for thing in WRONG_STATES + WRONG_NAMES + NEVER:
            kept = copy.deepcopy(thing)
            is_state(thing)
            for ask, arguments in [(paid, (thing,)), (bill_handed, ((0, ("a",)), thing)),
                                   (come_handed, ((0, ("a",)), thing)), (go_handed, ((0, ("a",)), thing))]:
                try:
                    ask(*arguments)
                except (NoState, NoCents, NoName):
                    pass
            self.assertEqual(thing, kept)


if __name__ == "__main__":
    unittest.main()
