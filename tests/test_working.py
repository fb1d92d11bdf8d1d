import unittest

from crankdrum.errors import BadBook, BadDeed, BadMachine, BadValue, DrumError, Stuck, TooSmall
from crankdrum.working import worked
from tests.reference import all_values, many_values, root, simulated
from tests.samples import chance
from tests.somebooks import SMALL_MACHINES, some_book

MACHINE = (10, 3, 6, 4)
INPUTS = (("a", 2, 0), ("ab", 3, 1))
VALUES = {"a": 47, "ab": 305}


def ends(deeds, values=None, inputs=INPUTS, machine=MACHINE):
    return worked(machine, (inputs, deeds, ()), VALUES if values is None else values)


class Deeds(unittest.TestCase):
    def test_no_inputs_and_no_deeds(self):
        self.assertEqual(worked(MACHINE, ((), (), ()), {}), (0, 0))
        self.assertEqual(worked((2, 1, 1, 1), ((), (), ()), {}), (0, 0))

    def test_load(self):
        self.assertEqual(ends((("load", "a"), ("turn", 1, 0))), (47, 0))
        self.assertEqual(ends((("load", "ab"), ("turn", 1, 0))), (305, 0))
        self.assertEqual(ends((("load", "ab"), ("load", "a"), ("turn", 1, 0))), (47, 0))

    def test_nothing_is_set_at_first(self):
        self.assertEqual(ends((("turn", 1, 1),)), (0, 1))

    def test_one(self):
        self.assertEqual(ends((("load", "ab"), ("one",), ("turn", 1, 0))), (1, 0))

    def test_shift(self):
        there = (("load", "a"), ("shift", 2), ("turn", 1, 1), ("shift", -1), ("turn", 1, 1))
        self.assertEqual(ends(there), (5170, 110))
        self.assertEqual(ends((("one",), ("shift", 3), ("turn", 1, 1), ("shift", -3), ("turn", 1, 1))), (1001, 1001))

    def test_turn(self):
        self.assertEqual(ends((("load", "a"), ("turn", 1, 1), ("turn", 1, 1), ("one",), ("turn", -1, -1))), (93, 1))
        self.assertEqual(ends((("one",), ("turn", -1, -1))), (999999, 9999))
        self.assertEqual(ends((("one",), ("turn", -1, -1), ("turn", 1, 1))), (0, 0))

    def test_turns(self):
        loaded = ("load", "ab")
        self.assertEqual(ends((loaded, ("turns", "a", 0, 1, 1))), (7 * 305, 7))
        self.assertEqual(ends((loaded, ("turns", "a", 1, 1, -1))), (4 * 305, 9996))
        self.assertEqual(ends((loaded, ("turns", "ab", 0, 1, 0), ("turns", "ab", 2, -1, 1))), (2 * 305, 3))
        self.assertEqual(ends((loaded, ("turns", "ab", 1, 1, 1))), (0, 0))

    def test_wipe(self):
        turned = (("load", "a"), ("turn", 1, 1))
        self.assertEqual(ends(turned + (("wipe", "wheels"),)), (0, 1))
        self.assertEqual(ends(turned + (("wipe", "counts"),)), (47, 0))
        self.assertEqual(ends(turned + (("wipe", "wheels"), ("turn", 1, 1))), (47, 2))

    def test_bell(self):
        before = (("load", "ab"), ("turn", 1, 0), ("load", "a"))
        self.assertEqual(ends(before + (("bell", 1),)), (305 % 47, 305 // 47))
        self.assertEqual(ends(before + (("bell", 0),)), (305 % 47, 0))
        self.assertEqual(ends(before + (("bell", -1),)), (305 % 47, 10000 - 305 // 47))
        self.assertEqual(ends(before + (("bell", 1), ("bell", 1))), (305 % 47, 305 // 47))
        self.assertEqual(ends(before + (("shift", 1), ("bell", 1))), (305, 0))

    def test_bell_to_just_nought(self):
        values = {"a": 61, "ab": 305}
        self.assertEqual(ends((("load", "ab"), ("turn", 1, 0), ("load", "a"), ("bell", 1)), values), (0, 5))

    def test_bell_over_and_over_the_wheels(self):
        machine = (12, 6, 16, 10)
        deeds = (("load", "n"), ("shift", 9), ("turn", 1, 0), ("shift", -9), ("one",), ("bell", 1))
        number = (12 ** 6 - 1) * 12 ** 9
        self.assertEqual(ends(deeds, {"n": 12 ** 6 - 1}, (("n", 6, 0),), machine), (0, number % 12 ** 10))

    def test_odds(self):
        before = (("load", "ab"), ("turn", 1, 0), ("one",))
        self.assertEqual(ends(before + (("odds", 1),)), (305 - 17 ** 2, 17))
        self.assertEqual(ends(before + (("odds", 0),)), (16, 0))
        self.assertEqual(ends(before + (("odds", -1),)), (16, 9983))
        self.assertEqual(ends(before + (("shift", 1), ("odds", 1))), (305 - 250, 50))

    def test_odds_leave_twice_as_many_and_one_on_the_slides(self):
        before = (("load", "ab"), ("turn", 1, 0), ("one",), ("odds", 0), ("wipe", "wheels"))
        self.assertEqual(ends(before + (("turn", 1, 0),)), (35, 0))

    def test_odds_from_what_is_set(self):
        before = (("load", "ab"), ("turn", 1, 0), ("load", "a"), ("odds", 1))
        self.assertEqual(ends(before), (305 - 47 - 49 - 51 - 53 - 55, 5))
        self.assertEqual(ends(before + (("wipe", "wheels"), ("turn", 1, 0))), (57, 5))
        self.assertEqual(ends((("load", "ab"), ("turn", 1, 0), ("load", "a"), ("odds", 1)), {"a": 0, "ab": 305}),
                         (305 - 17 * 16, 17))
        self.assertEqual(ends((("odds", 1), ("turn", 1, 0))), (2, 1))

    def test_claims_are_not_asked(self):
        claims = (("same", ("num", 0), ("num", 1)), ("less", ("wheels",), ("counts",)))
        self.assertEqual(worked(MACHINE, ((), (("one",), ("turn", 1, 1)), claims), {}), (1, 1))

    def test_values_at_their_edges(self):
        deeds = (("load", "a"), ("turn", 1, 0), ("shift", 2), ("load", "ab"), ("turn", 1, 0))
        self.assertEqual(ends(deeds, {"a": 0, "ab": 1}), (100, 0))
        self.assertEqual(ends(deeds, {"a": 99, "ab": 999}), (99999, 0))
        self.assertEqual(ends(deeds, {"ab": 999, "a": 99}), (99999, 0))


class Chance(unittest.TestCase):
    def test_handbooks_are_worked_turn_by_turn(self):
        rng = chance(51)
        done = stuck = 0
        for turn in range(1200):
            machine = SMALL_MACHINES[turn % len(SMALL_MACHINES)]
            book = some_book(rng, machine, 30, 14)
            self.assertLess(many_values(machine, book[0]), 31)
            for values in all_values(machine, book[0]):
                expected = simulated(machine, book, values)
                if isinstance(expected, int):
                    stuck += 1
                    with self.assertRaises(Stuck, msg=(machine, book, values)) as caught:
                        worked(machine, book, values)
                    self.assertEqual(caught.exception.number, expected, (machine, book, values))
                else:
                    done += 1
                    self.assertEqual(worked(machine, book, values), expected, (machine, book, values))
        self.assertGreater(min(done, stuck), 1000)


class IsStuck(unittest.TestCase):
    def stuck(self, at, deeds, values=None, inputs=INPUTS, machine=MACHINE):
        with self.assertRaises(Stuck, msg=deeds) as caught:
            ends(deeds, values, inputs, machine)
        self.assertEqual(caught.exception.number, at, deeds)

    def test_a_shift_to_no_place(self):
        self.stuck(0, (("shift", -1),))
        self.stuck(0, (("shift", 4),))
        self.stuck(2, (("shift", 3), ("shift", -3), ("shift", -1), ("shift", 1)))
        self.stuck(1, (("shift", 3), ("shift", 1), ("shift", -1)))
        self.stuck(0, (("shift", 99),))
        self.stuck(0, (("shift", 1),), machine=(10, 3, 3, 10))
        self.stuck(0, (("shift", 1),), machine=(10, 3, 16, 1))

    def test_a_bell_with_nothing_set(self):
        self.stuck(0, (("bell", 1),))
        self.stuck(1, (("load", "a"), ("bell", 0)), {"a": 0, "ab": 1})
        self.stuck(4, (("one",), ("turn", 1, 0), ("bell", 0), ("load", "a"), ("bell", 0)), {"a": 0, "ab": 1})
        self.assertEqual(ends((("load", "a"), ("bell", 0)), {"a": 1, "ab": 1}), (0, 0))

    def test_odds_that_would_set_more_than_the_slides_can_tell(self):
        deeds = (("load", "n"), ("turn", 1, 0), ("one",), ("odds", 1))
        for machine, last in (((10, 1, 4, 3), 9), ((3, 2, 5, 3), 8), ((2, 2, 4, 3), 3), ((3, 1, 4, 3), 0)):
            inputs = (("n", machine[1], 0),)
            for n in range(machine[0] ** machine[1]):
                if n <= last:
                    r = root(n)
                    self.assertEqual(ends(deeds, {"n": n}, inputs, machine), (n - r * r, r))
                else:
                    self.stuck(3, deeds, {"n": n}, inputs, machine)
        twice = (("load", "n"), ("turns", "n", 0, 1, 0), ("one",), ("odds", 1))
        self.assertEqual(ends(twice[:2] + (("one",),), {"n": 5}, (("n", 1, 0),), (10, 1, 4, 3)), (25, 0))
        self.stuck(3, twice, {"n": 5}, (("n", 1, 0),), (10, 1, 4, 3))
        self.assertEqual(ends(twice, {"n": 4}, (("n", 1, 0),), (10, 1, 4, 3)), (0, 4))

    def test_odds_with_other_numbers_set(self):
        deeds = (("one",), ("turn", 1, 0), ("load", "n"), ("odds", 1))
        self.assertEqual(ends(deeds, {"n": 9}, (("n", 1, 0),), (10, 1, 4, 3)), (1, 0))
        self.stuck(3, (("load", "n"), ("turn", 1, 0), ("load", "n"), ("odds", 1)), {"n": 9}, (("n", 1, 0),),
                   (10, 1, 4, 3))
        self.stuck(3, deeds, {"n": 0}, (("n", 1, 0),), (2, 1, 4, 3))

    def test_deeds_behind_it_are_not_done(self):
        self.stuck(1, (("one",), ("shift", 9), ("bell", 0), ("shift", 9)))

    def test_it_is_a_drum_error_and_a_value_error_and_none_of_the_others(self):
        for taker in (DrumError, ValueError):
            with self.assertRaises(taker) as caught:
                ends((("bell", 1),))
            self.assertIsInstance(caught.exception, Stuck)
            self.assertNotIsInstance(caught.exception, (BadMachine, BadDeed, BadBook, BadValue, TooSmall))


BAD_VALUES = (
    {}, {"a": 1}, {"ab": 1}, {"a": 1, "ab": 1, "b": 1}, {"a": 1, "b": 1}, {"a": 1, "abc": 1}, {"a": 1, "": 1},
    {"a": -1, "ab": 1}, {"a": 100, "ab": 1}, {"a": 0, "ab": 0}, {"a": 0, "ab": -1}, {"a": 0, "ab": 1000},
    {"a": 10 ** 30, "ab": 1}, {"a": 0, "ab": 1, "wheels": 0}, {"A": 1, "ab": 1},
)


class Values(unittest.TestCase):
    def test_values_that_are_not_as_the_inputs_say(self):
        for values in BAD_VALUES:
            with self.assertRaises(BadValue, msg=values) as caught:
                ends((("one",),), values)
            self.assertIsInstance(caught.exception, DrumError)
            self.assertIsInstance(caught.exception, ValueError)
            self.assertNotIsInstance(caught.exception, (BadMachine, BadDeed, BadBook, Stuck, TooSmall))

    def test_values_for_no_inputs(self):
        self.assertRaises(BadValue, worked, MACHINE, ((), (), ()), {"a": 1})

    def test_the_edges_of_other_machines(self):
        for machine in ((2, 1, 1, 1), (7, 4, 9, 2), (12, 6, 16, 10)):
            for least in (0, 1):
                inputs = (("n", machine[1], least),)
                most = machine[0] ** machine[1] - 1
                for value in (least, most):
                    self.assertEqual(ends((("load", "n"), ("turn", 1, 0)), {"n": value}, inputs, machine), (value, 0))
                for value in (least - 1, most + 1):
                    self.assertRaises(BadValue, ends, (), {"n": value}, inputs, machine)

    def test_they_are_refused_ahead_of_stuck_and_behind_bad_book(self):
        self.assertRaises(BadValue, ends, (("bell", 1),), {"a": 0})
        self.assertRaises(BadBook, ends, (("hop",),), {"a": 0})
        self.assertRaises(BadBook, worked, MACHINE, (INPUTS, (), (("same",),)), {"a": 0})
        self.assertRaises(BadMachine, ends, (("hop",),), {"a": 0}, INPUTS, (13, 3, 6, 4))

    def test_they_stay_as_they_are(self):
        values = {"ab": 305, "a": 47}
        deeds = (("load", "ab"), ("turns", "a", 0, 1, 1), ("load", "a"), ("bell", 0))
        first = ends(deeds, values)
        self.assertEqual(list(values.items()), [("ab", 305), ("a", 47)])
        self.assertEqual(ends(deeds, values), first)
        self.assertEqual([type(first)] + [type(part) for part in first], [tuple, int, int])
        values["a"] = 46
        self.assertNotEqual(ends(deeds, values), first)
        self.assertEqual(ends(deeds), first)
