"""What the document promises over the whole program."""

import copy
import unittest

from crankdrum.books import need_book
from crankdrum.deeds import done
from crankdrum.errors import BadBook, BadDeed, BadMachine, BadValue, DrumError, Stuck, TooSmall
from crankdrum.looking import looked
from crankdrum.machines import begin, figures_of, need_machine, told, top
from crankdrum.manuals import product, quotient, root
from crankdrum.wheels import carried, settled, spun
from crankdrum.working import worked
from tests.samples import BAD_MACHINES

SMALL, LARGE = (3, 2, 4, 2), (10, 3, 7, 5)
OTHERS = (BadMachine, BadDeed, BadBook, BadValue, Stuck, TooSmall)
W, C = ("wheels",), ("counts",)
BROKEN = ((("a", 2, 0), ("a", 2, 0)), (("hop",),), (("more", W, C),))
BOOK = ((("a", 2, 0), ("ab", 1, 1)), (("load", "a"), ("turn", 1, 0), ("load", "ab"), ("bell", 1)),
        (("less", W, ("input", "ab")),))
FALSE_BOOK = (BOOK[0], BOOK[1], (("less", W, ("input", "ab")), ("same", W, C)))
STUCK_BOOK = ((("a", 2, 0),), (("load", "a"), ("turn", 1, 0), ("bell", 1)), ())
VALUES = {"a": 7, "ab": 2}


def asks(machine):
    """Asks of each function, with what is handed in; many of them are refused."""
    stand = ((1, 2, 0)[:machine[1]], 1, (2, 2, 0, 1, 2, 2, 2)[:machine[2]], (2, 1, 0, 0, 2)[:machine[3]])
    wheels = stand[2]
    return [
        (need_machine, machine), (top, machine), (begin, machine), (told, machine[0], wheels),
        (figures_of, machine[0], 1234, 5), (spun, machine, stand, 1), (spun, machine, stand, -1),
        (carried, machine, wheels, [0, 2], 2, 1), (settled, machine, wheels, [0, 2], [2, 2, 3], -1),
        (done, machine, stand, ("turn", -1, 1)), (done, machine, stand, ("shift", 99)),
        (done, machine, stand, ("hop",)), (done, machine, stand, ("set", 0, 2)),
        (done, machine, stand, ("wipe", "counts")),
        (need_book, machine, BOOK), (need_book, machine, BROKEN), (need_book, machine, ((), (("hop",),), ())),
        (looked, machine, BOOK), (looked, machine, FALSE_BOOK), (looked, machine, STUCK_BOOK),
        (looked, machine, BROKEN),
        (looked, machine, ((), (("turn", 1, -1),), ())), (looked, machine, ((), (("odds", 1),), ())),
        (worked, machine, BOOK, VALUES), (worked, machine, FALSE_BOOK, {"a": 8, "ab": 1}),
        (worked, machine, STUCK_BOOK, {"a": 0}), (worked, machine, STUCK_BOOK, {"a": 3}),
        (worked, machine, BOOK, {"a": 7, "ab": 0}), (worked, machine, BOOK, {"a": 7}), (worked, machine, BROKEN, {}),
        (product, machine, 2, 2), (product, machine, 1, 3), (quotient, machine, 2, 2), (quotient, machine, 3, 1),
        (root, machine, 2), (root, machine, 3), (looked, machine, root((10, 3, 7, 5), 2)),
        (worked, machine, quotient((3, 2, 4, 2), 2, 1), {"n": 8, "d": 2}),
    ]


def answer(ask):
    """What an ask tells, or how it is refused."""
    try:
        return ask[0](*ask[1:])
    except DrumError as error:
        fields = tuple(getattr(error, field, None) for field in ("at", "word", "number"))
        return "refused", [other for other in OTHERS if isinstance(error, other)], fields


class AskedAgain(unittest.TestCase):
    def test_the_same_in_every_order_and_on_two_machines_in_turn(self):
        small, large = asks(SMALL), asks(LARGE)
        both = [ask for pair in zip(small, large) for ask in pair]
        first = [answer(ask) for ask in both]
        self.assertEqual([answer(ask) for ask in both], first)
        self.assertEqual([answer(ask) for ask in reversed(both)], first[::-1])
        self.assertEqual([answer(ask) for ask in small + large], first[::2] + first[1::2])
        for ask, told_first in zip(both, first):
            self.assertEqual(answer(ask), told_first)
            self.assertEqual(answer(ask), told_first)

    def test_there_are_asks_of_every_kind_that_are_told_and_that_are_refused(self):
        answers = [answer(ask) for machine in (SMALL, LARGE) for ask in asks(machine)]
        refused = [got[1] for got in answers if isinstance(got, tuple) and got[0] == "refused"]
        self.assertEqual({len(kinds) for kinds in refused}, {1})
        self.assertEqual({kinds[0] for kinds in refused}, {BadDeed, BadBook, BadValue, Stuck, TooSmall})
        self.assertGreater(len(answers), 2 * len(refused))

    def test_known_answers_stay(self):
        for turn in range(2):
            for machine in (SMALL, LARGE, SMALL):
                self.assertIsNone(looked(machine, BOOK))
                self.assertEqual(looked(machine, FALSE_BOOK), (1, "claim"))
                self.assertEqual(looked(machine, STUCK_BOOK), (2, "zero"))
                self.assertEqual(worked(machine, BOOK, VALUES), (1, 3))
                self.assertEqual(answer((worked, machine, STUCK_BOOK, {"a": 0})), ("refused", [Stuck], (None, None, 2)))
                self.assertEqual(answer((need_book, machine, BROKEN)), ("refused", [BadBook], (1, "input", None)))


class Stays(unittest.TestCase):
    def test_what_is_handed_in(self):
        for machine in (SMALL, LARGE):
            for ask in asks(machine):
                before = copy.deepcopy(ask[1:])
                answer(ask)
                self.assertEqual(ask[1:], before)

    def test_what_is_told_may_be_changed(self):
        for machine in (SMALL, LARGE):
            for ask in asks(machine):
                first = answer(ask)
                kept = copy.deepcopy(first)
                for part in first if isinstance(first, tuple) else ():
                    if isinstance(part, list):
                        part.append("more")
                self.assertEqual(answer(ask), kept)

    def test_errors_may_be_changed(self):
        for turn in range(2):
            with self.assertRaises(BadBook) as caught:
                need_book(SMALL, BROKEN)
            self.assertEqual((caught.exception.at, caught.exception.word), (1, "input"))
            caught.exception.at = caught.exception.word = None


class BadMachines(unittest.TestCase):
    def test_each_function_refuses_them_ahead_of_all_else(self):
        good = {"a": 1, "ab": 1}
        for machine in BAD_MACHINES + ((10, 3, 6, 11), (13, 6, 16, 10), (1, 1, 1, 1), (2, 6, 5, 1), (2, 6, 17, 1)):
            for book in (BOOK, BROKEN, ((), (), ()), STUCK_BOOK, ((("a", 7, 3),) * 5, (("one",),) * 41, ())):
                self.refused(need_book, machine, book)
                self.refused(looked, machine, book)
                for values in (good, {}, {"a": -1}, {"q": 0}):
                    self.refused(worked, machine, book, values)
            for one in (1, 2, 9):
                self.refused(root, machine, one)
                self.refused(product, machine, one, 1)
                self.refused(quotient, machine, 1, one)

    def refused(self, function, *handed):
        with self.assertRaises(BadMachine, msg=(function, handed)) as caught:
            function(*handed)
        self.assertIsInstance(caught.exception, DrumError)
        self.assertIsInstance(caught.exception, ValueError)
        self.assertNotIsInstance(caught.exception, OTHERS[1:])

    def test_bounds_just_met_are_let_by(self):
        for machine in ((2, 1, 1, 1), (12, 1, 1, 1), (12, 6, 6, 10), (12, 6, 16, 10), (2, 6, 16, 1), (2, 1, 16, 10)):
            self.assertIsNone(need_book(machine, ((), (), ())))
            self.assertIsNone(looked(machine, ((("n", machine[1], 0),), (("load", "n"), ("turn", 1, 0)), ())))
            most = machine[0] ** machine[1] - 1
            book = ((("n", machine[1], 0),), (("load", "n"), ("turn", 1, 1)), ())
            self.assertEqual(worked(machine, book, {"n": most}), (most, 1))
            self.assertEqual(quotient(machine, 1, 1)[0], (("n", 1, 0), ("d", 1, 1)))

    def test_bad_machine_ahead_of_bad_book_ahead_of_bad_value_ahead_of_stuck(self):
        bad = (10, 3, 6, 0)
        self.assertEqual(answer((worked, bad, BROKEN, {}))[1], [BadMachine])
        self.assertEqual(answer((worked, LARGE, BROKEN, {}))[1], [BadBook])
        self.assertEqual(answer((worked, LARGE, STUCK_BOOK, {}))[1], [BadValue])
        self.assertEqual(answer((worked, LARGE, STUCK_BOOK, {"a": 0}))[1], [Stuck])
