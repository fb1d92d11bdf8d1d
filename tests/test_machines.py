import unittest

from crankdrum.deeds import done
from crankdrum.errors import BadMachine
from crankdrum.machines import begin, figures_of, need_machine, told, top
from crankdrum.wheels import carried, settled, spun
from tests.samples import BAD_MACHINES, GOOD_MACHINES, chance, highest_place, some_row, spelt, worth

STAND = ((1, 2, 3), 0, (0,) * 6, (0,) * 4)


class Machines(unittest.TestCase):
    def test_machines_within_the_bounds_are_taken(self):
        for machine in GOOD_MACHINES:
            self.assertIsNone(need_machine(machine), machine)

    def test_every_machine_about_the_bounds_is_judged_as_the_bounds_say(self):
        for base in (1, 2, 3, 11, 12, 13):
            for slides in range(-1, 9):
                for wheels in range(-1, 19):
                    for counters in (-1, 0, 1, 2, 9, 10, 11):
                        self.judge((base, slides, wheels, counters))

    def judge(self, machine):
        base, slides, wheels, counters = machine
        if 2 <= base <= 12 and 1 <= slides <= 6 and slides <= wheels <= 16 and 1 <= counters <= 10:
            self.assertIsNone(need_machine(machine), machine)
        else:
            with self.assertRaises(BadMachine, msg=machine):
                need_machine(machine)

    def test_bad_machines_are_refused_by_every_function_ahead_of_all_else(self):
        for machine in BAD_MACHINES:
            calls = (
                lambda: need_machine(machine),
                lambda: top(machine),
                lambda: begin(machine),
                lambda: spun(machine, STAND, 1),
                lambda: spun(machine, STAND, -1),
                lambda: carried(machine, (9, 0, 0, 0, 0, 0), [0], 0, 1),
                lambda: settled(machine, (9, 0, 0, 0, 0, 0), [0], [0], 1),
                lambda: settled(machine, (0, 0, 0, 0, 0, 0), [], [], 1),
                lambda: done(machine, STAND, ("set", 0, 1)),
                lambda: done(machine, STAND, ("set", 99, 99)),
                lambda: done(machine, STAND, ("shift", 1)),
                lambda: done(machine, STAND, ("shift", 99)),
                lambda: done(machine, STAND, ("turn", 1, 1)),
                lambda: done(machine, STAND, ("turn", 5, 5)),
                lambda: done(machine, STAND, ("wipe", "wheels")),
                lambda: done(machine, STAND, ("wipe", "crank")),
                lambda: done(machine, STAND, ("hop",)),
                lambda: done(machine, STAND, ("turn",)),
            )
            for at, call in enumerate(calls):
                with self.assertRaises(BadMachine, msg=(machine, at)):
                    call()


class Places(unittest.TestCase):
    def test_top_is_the_lesser_of_free_wheels_and_counters_less_one(self):
        self.assertEqual(top((10, 3, 6, 4)), 3)
        self.assertEqual(top((10, 3, 6, 3)), 2)
        self.assertEqual(top((10, 3, 5, 4)), 2)

    def test_top_at_the_edges(self):
        self.assertEqual(top((10, 6, 6, 10)), 0)
        self.assertEqual(top((10, 1, 16, 1)), 0)
        self.assertEqual(top((2, 1, 16, 10)), 9)
        self.assertEqual(top((12, 6, 16, 10)), 9)
        self.assertEqual(top((12, 6, 14, 10)), 8)

    def test_begin_has_noughts_alone(self):
        self.assertEqual(begin((10, 3, 6, 4)), ((0, 0, 0), 0, (0, 0, 0, 0, 0, 0), (0, 0, 0, 0)))
        self.assertEqual(begin((2, 1, 1, 1)), ((0,), 0, (0,), (0,)))
        self.assertEqual(begin((12, 6, 16, 10)), ((0,) * 6, 0, (0,) * 16, (0,) * 10))

    def test_top_and_begin_of_all_sample_machines(self):
        for machine in GOOD_MACHINES:
            self.assertEqual(top(machine), highest_place(machine))
            setting, place, wheels, counts = begin(machine)
            self.assertEqual((len(setting), place, len(wheels), len(counts)), (machine[1], 0, machine[2], machine[3]))
            self.assertEqual(set(setting + wheels + counts), {0})
            self.assertEqual([type(part) for part in begin(machine)], [tuple, int, tuple, tuple])
            self.assertEqual(begin(machine), begin(machine))


class Figures(unittest.TestCase):
    def test_the_lowest_figure_is_the_first(self):
        self.assertEqual(told(10, (1, 2, 3)), 321)
        self.assertEqual(told(2, (1, 0, 1, 1)), 13)
        self.assertEqual(told(12, (11, 0, 1)), 155)
        self.assertEqual(figures_of(10, 321, 3), (1, 2, 3))
        self.assertEqual(figures_of(2, 13, 4), (1, 0, 1, 1))
        self.assertEqual(figures_of(12, 155, 3), (11, 0, 1))

    def test_a_row_of_no_figures(self):
        self.assertEqual(told(10, ()), 0)
        self.assertEqual(figures_of(10, 0, 0), ())
        self.assertEqual(figures_of(10, 321, 0), ())

    def test_figures_above_the_number_are_noughts_and_higher_ones_are_left_out(self):
        self.assertEqual(figures_of(10, 7, 4), (7, 0, 0, 0))
        self.assertEqual(figures_of(10, 0, 3), (0, 0, 0))
        self.assertEqual(figures_of(10, 98765, 2), (5, 6))
        self.assertEqual(figures_of(10, 1000, 3), (0, 0, 0))
        self.assertEqual(figures_of(2, 16, 4), (0, 0, 0, 0))
        self.assertEqual(figures_of(12, 143, 1), (11,))

    def test_long_rows(self):
        self.assertEqual(told(12, (11,) * 16), 12 ** 16 - 1)
        self.assertEqual(figures_of(12, 12 ** 16 - 1, 16), (11,) * 16)
        self.assertEqual(told(10, (0,) * 15 + (1,)), 10 ** 15)
        self.assertEqual(figures_of(10, 10 ** 15, 16), (0,) * 15 + (1,))
        self.assertEqual(told(10, (0,) * 16), 0)
        self.assertEqual(told(10, (9,) * 40), 10 ** 40 - 1)

    def test_each_base_there_and_back(self):
        rng = chance(11)
        for base in range(2, 13):
            for many in range(0, 17):
                row = some_row(rng, base, many)
                self.assertEqual(told(base, row), worth(base, row))
                self.assertEqual(figures_of(base, worth(base, row), many), row)
                number = rng.randrange(base ** 20)
                self.assertEqual(figures_of(base, number, many), spelt(base, number, many))
                self.assertIsInstance(figures_of(base, number, many), tuple)
