import unittest

from crankdrum.deeds import done
from crankdrum.errors import BadBook, BadDeed, BadMachine, BadValue, DrumError, Stuck, TooSmall
from crankdrum.machines import begin
from tests.samples import GOOD_MACHINES, chance, highest_place, many_stands, some_stand, spelt, worth

MACHINE = (10, 3, 6, 4)
STAND = ((5, 0, 2), 1, (1, 7, 3, 0, 0, 9), (4, 3, 0, 9))


class Set(unittest.TestCase):
    def test_a_slide_has_the_figure(self):
        self.assertEqual(done(MACHINE, STAND, ("set", 0, 9)), (((9, 0, 2),) + STAND[1:], False))
        self.assertEqual(done(MACHINE, STAND, ("set", 1, 3)), (((5, 3, 2),) + STAND[1:], False))
        self.assertEqual(done(MACHINE, STAND, ("set", 2, 0)), (((5, 0, 0),) + STAND[1:], False))

    def test_every_slide_and_the_figures_at_the_edges(self):
        for machine, stand in many_stands(31, 2):
            for slide in range(machine[1]):
                for figure in (0, machine[0] - 1):
                    setting = stand[0][:slide] + (figure,) + stand[0][slide + 1:]
                    self.assertEqual(done(machine, stand, ("set", slide, figure)), ((setting,) + stand[1:], False))


class Shift(unittest.TestCase):
    def test_the_place_is_greater_by_a_number(self):
        for by in (-1, 0, 1, 2):
            expected = (STAND[0], 1 + by, STAND[2], STAND[3])
            self.assertEqual(done(MACHINE, STAND, ("shift", by)), (expected, False))

    def test_every_place_to_every_place(self):
        for machine in GOOD_MACHINES:
            last = highest_place(machine)
            for place in range(last + 1):
                stand = (begin(machine)[0], place) + begin(machine)[2:]
                for by in range(-place - 2, last - place + 3):
                    self.check(machine, stand, by, 0 <= place + by <= last)

    def check(self, machine, stand, by, there):
        if there:
            expected = (stand[0], stand[1] + by) + stand[2:]
            self.assertEqual(done(machine, stand, ("shift", by)), (expected, False))
        else:
            with self.assertRaises(BadDeed):
                done(machine, stand, ("shift", by))


class Turn(unittest.TestCase):
    def test_adding(self):
        stand = ((5, 0, 2), 1, (1, 7, 3, 0, 0, 9), (4, 3, 0, 9))
        self.assertEqual(done(MACHINE, stand, ("turn", 1, 1)),
                         (((5, 0, 2), 1, (1, 2, 4, 2, 0, 9), (4, 4, 0, 9)), False))

    def test_taking_away(self):
        stand = ((5, 0, 2), 1, (1, 3, 3, 0, 0, 9), (4, 3, 0, 9))
        self.assertEqual(done(MACHINE, stand, ("turn", -1, -1)),
                         (((5, 0, 2), 1, (1, 8, 2, 8, 9, 8), (4, 2, 0, 9)), False))

    def test_the_bell(self):
        self.assertEqual(done(MACHINE, ((1, 0, 0), 0, (9,) * 6, (0,) * 4), ("turn", 1, 0)),
                         (((1, 0, 0), 0, (0,) * 6, (0,) * 4), True))
        self.assertEqual(done(MACHINE, ((1, 0, 0), 3, (9, 9, 9, 0, 0, 0), (0,) * 4), ("turn", -1, 0)),
                         (((1, 0, 0), 3, (9,) * 6, (0,) * 4), True))
        self.assertEqual(done(MACHINE, ((0, 0, 9), 3, (0, 0, 0, 0, 0, 9), (0,) * 4), ("turn", 1, 0)),
                         (((0, 0, 9), 3, (0, 0, 0, 0, 0, 8), (0,) * 4), True))

    def test_exactly_at_nought_nothing_rings(self):
        self.assertEqual(done(MACHINE, ((3, 2, 1), 3, (0, 0, 0, 3, 2, 1), (0,) * 4), ("turn", -1, 0)),
                         (((3, 2, 1), 3, (0,) * 6, (0,) * 4), False))

    def test_the_way_does_not_touch_the_tally(self):
        for way in (1, -1):
            for tally, counts in ((-1, (4, 2, 0, 9)), (0, (4, 3, 0, 9)), (1, (4, 4, 0, 9))):
                self.assertEqual(done(MACHINE, STAND, ("turn", way, tally))[0][3], counts)

    def test_counts_that_run_over_or_below_nought_tell_nothing(self):
        stand = ((0, 0, 0), 2, (0,) * 6, (7, 8, 9, 9))
        self.assertEqual(done(MACHINE, stand, ("turn", 1, 1)), ((stand[:3] + ((7, 8, 0, 0),)), False))
        stand = ((0, 0, 0), 2, (0,) * 6, (7, 8, 0, 0))
        self.assertEqual(done(MACHINE, stand, ("turn", 1, -1)), ((stand[:3] + ((7, 8, 9, 9),)), False))
        stand = ((1,), 0, (0,), (1,))
        self.assertEqual(done((2, 1, 1, 1), stand, ("turn", 1, 1)), (((1,), 0, (1,), (0,)), False))

    def test_ten_counters_at_the_highest_place(self):
        machine = (12, 6, 16, 10)
        stand = ((0,) * 6, 9, (0,) * 16, (11,) * 9 + (10,))
        self.assertEqual(done(machine, stand, ("turn", 1, 1))[0][3], (11,) * 10)
        self.assertEqual(done(machine, done(machine, stand, ("turn", 1, 1))[0], ("turn", 1, 1))[0][3], (11,) * 9 + (0,))

    def test_many_stands_each_way_and_tally(self):
        for machine, stand in many_stands(32, 60):
            for way in (1, -1):
                for tally in (-1, 0, 1):
                    self.check(machine, stand, way, tally)

    def check(self, machine, stand, way, tally):
        base, slides, wheels, counters = machine
        setting, place, row, counts = stand
        number = worth(base, row) + way * worth(base, setting) * base ** place
        counted = (worth(base, counts) + tally * base ** place) % base ** counters
        after, rang = done(machine, stand, ("turn", way, tally))
        expected = (setting, place, spelt(base, number % base ** wheels, wheels), spelt(base, counted, counters))
        self.assertEqual(after, expected)
        self.assertIs(rang, not 0 <= number < base ** wheels)


class Wipe(unittest.TestCase):
    def test_each_word(self):
        self.assertEqual(done(MACHINE, STAND, ("wipe", "setting")), (((0, 0, 0),) + STAND[1:], False))
        self.assertEqual(done(MACHINE, STAND, ("wipe", "wheels")), (STAND[:2] + ((0,) * 6, STAND[3]), False))
        self.assertEqual(done(MACHINE, STAND, ("wipe", "counts")), (STAND[:3] + ((0,) * 4,), False))

    def test_the_place_stays(self):
        for machine, stand in many_stands(33, 3):
            base, slides, wheels, counters = machine
            setting, place, row, counts = stand
            self.assertEqual(done(machine, stand, ("wipe", "setting")), (((0,) * slides, place, row, counts), False))
            self.assertEqual(done(machine, stand, ("wipe", "wheels")), ((setting, place, (0,) * wheels, counts), False))
            self.assertEqual(done(machine, stand, ("wipe", "counts")), ((setting, place, row, (0,) * counters), False))


CANT_BE_DONE = (
    ("set", -1, 0), ("set", 3, 0), ("set", 6, 0), ("set", 0, -1), ("set", 0, 10), ("set", 2, 99), ("set", 99, 99),
    ("shift", -2), ("shift", 3), ("shift", -99), ("shift", 99),
    ("turn", 0, 0), ("turn", 2, 0), ("turn", -2, 1), ("turn", 0, 9),
    ("turn", 1, 2), ("turn", 1, -2), ("turn", -1, 10),
    ("wipe", ""), ("wipe", "place"), ("wipe", "wheel"), ("wipe", "Wheels"), ("wipe", "turn"), ("wipe", "all"),
    ("",), ("hop",), ("hop", 1), ("SET", 0, 1), ("Turn", 1, 1), ("load", "a"), ("one",), ("bell", 1), ("odds", 1),
    ("turns", "a", 0, 1, 1), ("setting",), ("wheels",),
    ("set",), ("set", 0), ("set", 0, 1, 1), ("shift",), ("shift", 0, 0), ("shift", 1, 1, 1),
    ("turn",), ("turn", 1), ("turn", 1, 1, 1), ("wipe",), ("wipe", "wheels", "counts"), ("wipe", "wheels", 0),
)


class Refused(unittest.TestCase):
    def test_what_can_not_be_done(self):
        for deed in CANT_BE_DONE:
            with self.assertRaises(BadDeed, msg=deed) as caught:
                done(MACHINE, STAND, deed)
            self.assertIsInstance(caught.exception, DrumError)
            self.assertIsInstance(caught.exception, ValueError)
            self.assertNotIsInstance(caught.exception, (BadMachine, BadBook, BadValue, Stuck, TooSmall))

    def test_the_edges_of_other_machines(self):
        for machine, stand in many_stands(34, 2):
            base, slides, wheels, counters = machine
            over, under = highest_place(machine) + 1 - stand[1], -1 - stand[1]
            for deed in (("set", slides, 0), ("set", -1, 0), ("set", 0, base), ("shift", over), ("shift", under)):
                with self.assertRaises(BadDeed, msg=(machine, deed)):
                    done(machine, stand, deed)


class AllDeeds(unittest.TestCase):
    def test_the_stand_stays_and_the_answer_is_the_same_again(self):
        rng = chance(35)
        for machine in GOOD_MACHINES:
            stand = some_stand(rng, machine)
            before = tuple(stand)
            for deed in (("set", 0, 1), ("shift", 0), ("turn", 1, 1), ("turn", -1, 0), ("wipe", "wheels")):
                first = done(machine, stand, deed)
                self.assertEqual(stand, before)
                self.assertEqual(done(machine, stand, deed), first)
                self.check_kinds(machine, first)

    def check_kinds(self, machine, answer):
        self.assertEqual([type(part) for part in answer], [tuple, bool])
        self.assertEqual([type(part) for part in answer[0]], [tuple, int, tuple, tuple])
        lengths = (len(answer[0][0]), len(answer[0][2]), len(answer[0][3]))
        self.assertEqual(lengths, machine[1:])

    def test_a_long_row_of_deeds(self):
        stand = begin(MACHINE)
        deeds = (("set", 0, 7), ("set", 1, 4), ("turn", 1, 1), ("turn", 1, 1), ("shift", 2), ("turn", 1, 1),
                 ("shift", -1), ("turn", -1, -1), ("wipe", "setting"), ("set", 2, 9), ("shift", 2), ("turn", -1, 0))
        rings = []
        for deed in deeds:
            stand, rang = done(MACHINE, stand, deed)
            rings.append(rang)
        # 2 x 47 + 4700 - 470 = 4324, less 900000 goes below nought; 2 + 100 - 10 = 92 turns.
        self.assertEqual(stand, ((0, 0, 9), 3, spelt(10, 104324, 6), (2, 9, 0, 0)))
        self.assertEqual(rings, [False] * 11 + [True])
