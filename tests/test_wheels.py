import itertools
import unittest

from crankdrum.wheels import carried, settled, spun
from tests.samples import chance, highest_place, many_stands, some_row, worth

MACHINE = (10, 3, 6, 4)


class Spun(unittest.TestCase):
    def test_adding(self):
        stand = ((5, 9, 0), 1, (1, 7, 3, 0, 0, 9), (0, 0, 0, 0))
        self.assertEqual(spun(MACHINE, stand, 1), ((1, 2, 2, 0, 0, 9), [1, 2]))

    def test_taking_away(self):
        stand = ((5, 9, 1), 1, (1, 7, 3, 0, 0, 9), (0, 0, 0, 0))
        self.assertEqual(spun(MACHINE, stand, -1), ((1, 2, 4, 9, 0, 9), [2, 3]))

    def test_a_wheel_that_just_does_not_go_round_raises_no_lever(self):
        self.assertEqual(spun(MACHINE, ((9, 4, 0), 0, (0, 5, 9, 9, 9, 9), (0,) * 4), 1), ((9, 9, 9, 9, 9, 9), []))
        self.assertEqual(spun(MACHINE, ((9, 4, 0), 0, (9, 4, 0, 0, 0, 0), (0,) * 4), -1), ((0, 0, 0, 0, 0, 0), []))

    def test_a_wheel_that_just_goes_round_raises_its_lever(self):
        self.assertEqual(spun(MACHINE, ((1, 9, 5), 0, (9, 1, 5, 0, 0, 0), (0,) * 4), 1), ((0,) * 6, [0, 1, 2]))
        self.assertEqual(spun(MACHINE, ((1, 9, 5), 0, (0, 8, 4, 9, 9, 9), (0,) * 4), -1), ((9,) * 6, [0, 1, 2]))

    def test_noughts_set_move_nothing(self):
        stand = ((0, 0, 0), 2, (9, 0, 9, 0, 9, 0), (0,) * 4)
        for way in (1, -1):
            self.assertEqual(spun(MACHINE, stand, way), ((9, 0, 9, 0, 9, 0), []))

    def test_place_top_reaches_the_last_wheel(self):
        self.assertEqual(spun(MACHINE, ((1, 2, 3), 3, (0, 0, 0, 9, 7, 8), (0,) * 4), 1), ((0, 0, 0, 0, 9, 1), [3, 5]))
        self.assertEqual(spun(MACHINE, ((1, 2, 3), 3, (0, 0, 0, 0, 2, 2), (0,) * 4), -1), ((0, 0, 0, 9, 0, 9), [3, 5]))

    def test_smallest_and_largest_machines(self):
        self.assertEqual(spun((2, 1, 1, 1), ((1,), 0, (1,), (0,)), 1), ((0,), [0]))
        self.assertEqual(spun((2, 1, 1, 1), ((1,), 0, (1,), (0,)), -1), ((0,), []))
        stand = ((11,) * 6, 9, (11,) * 16, (0,) * 10)
        moved = (11,) * 9 + (10,) * 6 + (11,)
        self.assertEqual(spun((12, 6, 16, 10), stand, 1), (moved, [9, 10, 11, 12, 13, 14]))

    def test_many_stands_wheel_by_wheel(self):
        for machine, stand in many_stands(21, 60):
            for way in (1, -1):
                self.check(machine, stand, way)

    def check(self, machine, stand, way):
        base = machine[0]
        setting, place, wheels, counts = stand
        expected, raised = [], []
        for wheel, figure in enumerate(wheels):
            by = setting[wheel - place] if place <= wheel < place + len(setting) else 0
            expected.append((figure + way * by) % base)
            if way == 1 and expected[-1] < figure or way == -1 and expected[-1] > figure:
                raised.append(wheel)
        answer = spun(machine, stand, way)
        self.assertEqual(answer, (tuple(expected), raised))
        self.assertEqual([type(part) for part in answer], [tuple, list])

    def test_what_is_given_back_may_be_changed(self):
        stand = ((5, 9, 0), 1, (1, 7, 3, 0, 0, 9), (0, 0, 0, 0))
        spun(MACHINE, stand, 1)[1].append(77)
        self.assertEqual(spun(MACHINE, stand, 1), ((1, 2, 2, 0, 0, 9), [1, 2]))

    def test_a_place_somewhat_beyond_top_is_no_error(self):
        stand = ((1, 1, 1), 5, (0, 0, 0, 0, 0, 0), (0,) * 4)
        self.assertEqual(spun(MACHINE, stand, 1), ((0, 0, 0, 0, 0, 1), []))


class Carried(unittest.TestCase):
    def test_the_lever_goes_down_and_the_next_wheel_goes_on(self):
        self.assertEqual(carried(MACHINE, (0, 4, 0, 0, 0, 0), [0], 0, 1), ((0, 5, 0, 0, 0, 0), [], False))
        self.assertEqual(carried(MACHINE, (9, 4, 0, 0, 0, 0), [0], 0, -1), ((9, 3, 0, 0, 0, 0), [], False))

    def test_the_next_wheel_may_raise_its_own_lever(self):
        self.assertEqual(carried(MACHINE, (0, 9, 0, 0, 0, 0), [0, 4], 0, 1), ((0, 0, 0, 0, 0, 0), [1, 4], False))
        self.assertEqual(carried(MACHINE, (9, 0, 5, 0, 0, 0), [0, 4], 0, -1), ((9, 9, 5, 0, 0, 0), [1, 4], False))

    def test_up_to_the_highest_figure_or_nought_no_lever_rises(self):
        self.assertEqual(carried(MACHINE, (0, 8, 0, 0, 0, 0), [0], 0, 1), ((0, 9, 0, 0, 0, 0), [], False))
        self.assertEqual(carried(MACHINE, (9, 1, 0, 0, 0, 0), [0], 0, -1), ((9, 0, 0, 0, 0, 0), [], False))

    def test_levers_stay_a_rising_list(self):
        wheels = (0, 0, 9, 0, 0, 0)
        self.assertEqual(carried(MACHINE, wheels, [0, 1, 3, 5], 1, 1), ((0, 0, 0, 0, 0, 0), [0, 2, 3, 5], False))

    def test_the_lever_before_the_last_rings_nothing(self):
        self.assertEqual(carried(MACHINE, (0, 0, 0, 0, 0, 9), [4], 4, 1), ((0,) * 6, [5], False))

    def test_the_last_lever_rings_the_bell_and_nothing_else(self):
        for way in (1, -1):
            self.assertEqual(carried(MACHINE, (9, 0, 9, 0, 9, 0), [1, 5], 5, way), ((9, 0, 9, 0, 9, 0), [1], True))
        self.assertEqual(carried((2, 1, 1, 1), (0,), [0], 0, 1), ((0,), [], True))
        self.assertEqual(carried((12, 6, 16, 10), (11,) * 16, [15], 15, -1), ((11,) * 16, [], True))

    def test_a_lever_that_is_up_already_is_up_once(self):
        self.assertEqual(carried(MACHINE, (0, 9, 0, 0, 0, 0), [0, 1], 0, 1), ((0, 0, 0, 0, 0, 0), [1], False))

    def test_kinds_and_what_is_handed_in_stays(self):
        levers = [0, 2]
        answer = carried(MACHINE, (0, 9, 0, 0, 0, 0), levers, 0, 1)
        self.assertEqual([type(part) for part in answer], [tuple, list, bool])
        self.assertEqual(levers, [0, 2])
        answer[1].append(77)
        self.assertEqual(levers, [0, 2])
        self.assertEqual(carried(MACHINE, (0, 9, 0, 0, 0, 0), levers, 0, 1), ((0,) * 6, [1, 2], False))

    def test_levers_in_every_order_come_to_the_same(self):
        for machine, stand in many_stands(22, 25):
            for way in (1, -1):
                self.check_orders(machine, stand, way)

    def check_orders(self, machine, stand, way):
        base, slides, wheels, counters = machine
        sought = sought_number(machine, stand, way)
        for seed in range(6):
            rng = chance(seed)
            row, levers = spun(machine, stand, way)
            rings = 0
            while levers:
                row, levers, rang = carried(machine, row, levers, rng.choice(levers), way)
                rings += rang
            self.assertEqual(worth(base, row), sought % base ** wheels)
            self.assertEqual(rings, 0 if 0 <= sought < base ** wheels else 1)


def sought_number(machine, stand, way):
    """What is there and what is set, more or less, before it is taken by the base's power."""
    base = machine[0]
    setting, place, wheels, counts = stand
    return worth(base, wheels) + way * worth(base, setting) * base ** place


def some_order(rng, wheels):
    """Wheels twice, left out, or none."""
    many = rng.choice((0, 1, wheels, 3 * wheels))
    return [rng.randrange(wheels) for at in range(many)]


class Settled(unittest.TestCase):
    def test_a_carry_through_all_wheels(self):
        self.assertEqual(settled(MACHINE, (0, 9, 9, 9, 8, 0), [0], [], 1), ((0, 0, 0, 0, 9, 0), False))
        self.assertEqual(settled(MACHINE, (0, 9, 9, 9, 9, 9), [0], [], 1), ((0,) * 6, True))
        self.assertEqual(settled(MACHINE, (9, 0, 0, 0, 1, 0), [0], [], -1), ((9, 9, 9, 9, 0, 0), False))
        self.assertEqual(settled(MACHINE, (9, 0, 0, 0, 0, 0), [0], [], -1), ((9,) * 6, True))

    def test_no_levers(self):
        self.assertEqual(settled(MACHINE, (1, 2, 3, 4, 5, 6), [], [], 1), ((1, 2, 3, 4, 5, 6), False))
        self.assertEqual(settled(MACHINE, (1, 2, 3, 4, 5, 6), [], [0, 5, 5], -1), ((1, 2, 3, 4, 5, 6), False))

    def test_the_bell_is_told_whichever_lever_is_done_last(self):
        for order in ([], [5], [0, 5], [5, 0], [0, 1, 5], [5, 0, 1], [3, 3]):
            self.assertEqual(settled(MACHINE, (0, 9, 0, 0, 0, 0), [0, 5], order, 1), ((0, 0, 1, 0, 0, 0), True))

    def test_levers_of_the_order_count_only_where_they_are_up(self):
        self.assertEqual(settled(MACHINE, (0, 0, 0, 0, 0, 0), [2], [0, 1, 5, 2, 2, 3], 1), ((0, 0, 0, 1, 0, 0), False))

    def test_a_lever_that_rises_on_the_way_is_done_where_the_order_says(self):
        self.assertEqual(settled(MACHINE, (0, 9, 9, 0, 0, 0), [0], [0, 1, 2], 1), ((0, 0, 0, 1, 0, 0), False))
        self.assertEqual(settled(MACHINE, (0, 9, 9, 0, 0, 0), [0], [2, 1, 0], 1), ((0, 0, 0, 1, 0, 0), False))

    def test_the_order_goes_ahead_of_the_lowest(self):
        # No turn leaves such a stand: wheel 1 is at 9 with its lever up, and so the order shows.
        self.assertEqual(settled(MACHINE, (0, 9, 0, 0, 0, 0), [0, 1], [1], 1), ((0, 0, 2, 0, 0, 0), False))
        self.assertEqual(settled(MACHINE, (0, 9, 0, 0, 0, 0), [0, 1], [], 1), ((0, 0, 1, 0, 0, 0), False))

    def test_the_lowest_lever_goes_first_behind_the_order(self):
        # Again a stand that no turn leaves: lever 3 first would come to 2 on wheel 5.
        self.assertEqual(settled(MACHINE, (0, 0, 0, 9, 9, 0), [2, 3, 4], [], 1), ((0, 0, 0, 0, 0, 1), False))

    def test_every_order_of_few_wheels(self):
        machine = (3, 3, 4, 2)
        for setting in ((2, 2, 2), (1, 0, 2), (2, 1, 1)):
            for wheels in itertools.product((0, 1, 2), repeat=4):
                for place in (0, 1):
                    stand = (setting, place, wheels, (0, 0))
                    for way in (1, -1):
                        self.check_all(machine, stand, way, list(itertools.permutations(range(4)))[::5])

    def check_all(self, machine, stand, way, orders):
        base, slides, wheels, counters = machine
        sought = sought_number(machine, stand, way)
        row, levers = spun(machine, stand, way)
        for order in orders:
            told_row, rang = settled(machine, row, levers, list(order), way)
            self.assertEqual(worth(base, told_row), sought % base ** wheels)
            self.assertIs(rang, not 0 <= sought < base ** wheels)

    def test_many_stands_and_orders(self):
        rng = chance(23)
        for machine, stand in many_stands(24, 60):
            orders = [[], *(some_order(rng, machine[2]) for turn in range(4))]
            for way in (1, -1):
                self.check_all(machine, stand, way, orders)

    def test_exactly_at_the_power_and_exactly_at_nought(self):
        for machine, stand in many_stands(25, 10):
            base, slides, wheels, counters = machine
            setting, place, row, counts = stand
            setting = (1,) + setting[1:]
            by = worth(base, setting) * base ** place
            for less, rings in ((by, True), (by + 1, False)):
                full = base ** wheels - less
                wheels_row = tuple(full // base ** at % base for at in range(wheels))
                self.check_all(machine, (setting, place, wheels_row, counts), 1, [[]])
                self.assertIs(self.rings(machine, (setting, place, wheels_row, counts), 1), rings)
            for number, rings in ((by, False), (by - 1, True)):
                wheels_row = tuple(number // base ** at % base for at in range(wheels))
                self.check_all(machine, (setting, place, wheels_row, counts), -1, [[]])
                self.assertIs(self.rings(machine, (setting, place, wheels_row, counts), -1), rings)

    def rings(self, machine, stand, way):
        row, levers = spun(machine, stand, way)
        return settled(machine, row, levers, [], way)[1]

    def test_kinds_and_what_is_handed_in_stays(self):
        levers, order = [0, 3], [3, 3, 9, 0]
        answer = settled(MACHINE, (0, 9, 9, 0, 9, 9), levers, order, 1)
        self.assertEqual([type(part) for part in answer], [tuple, bool])
        self.assertEqual((levers, order), ([0, 3], [3, 3, 9, 0]))
        self.assertEqual(settled(MACHINE, (0, 9, 9, 0, 9, 9), levers, order, 1), answer)

    def test_places_of_the_carriage_up_to_top(self):
        for machine in ((10, 6, 16, 10), (2, 1, 10, 10), (12, 3, 5, 10)):
            rng = chance(26)
            for place in range(highest_place(machine) + 1):
                setting = some_row(rng, machine[0], machine[1])
                stand = (setting, place, some_row(rng, machine[0], machine[2]), (0,) * machine[3])
                for way in (1, -1):
                    self.check_all(machine, stand, way, [[], some_order(rng, machine[2])])
