import unittest

from crankdrum.looking import looked

W, C = ("wheels",), ("counts",)
A, B, N, D = ("input", "a"), ("input", "b"), ("input", "n"), ("input", "d")
MACHINE = (10, 2, 4, 3)
INPUTS = (("a", 2, 0), ("b", 1, 0), ("d", 2, 1), ("n", 1, 1))
ONCE = ("turn", 1, 0)


def num(number):
    return ("num", number)


def add(one, other):
    return ("add", one, other)


def times(one, other):
    return ("times", one, other)


def same(one, other):
    return ("same", one, other)


def less(one, other):
    return ("less", one, other)


class Looking(unittest.TestCase):
    def let_by(self, deeds, claims=(), machine=MACHINE, inputs=INPUTS):
        self.assertIsNone(looked(machine, (inputs, deeds, claims)), (machine, deeds, claims))

    def isnt(self, word, deeds, claims=(), machine=MACHINE, inputs=INPUTS):
        """The last deed, or the last claim, isn't let by, all ahead of it are."""
        at = len(claims if word == "claim" else deeds) - 1
        self.assertEqual(looked(machine, (inputs, deeds, claims)), (at, word), (machine, deeds, claims))

    def bears_out(self, deeds, good, bad, machine=MACHINE, inputs=INPUTS):
        """Behind the deeds each of the good claims is let by, each of the bad ones isn't."""
        for at in range(0, len(good), 7):
            self.let_by(deeds, good[at:at + 7], machine, inputs)
        for claim in bad:
            self.isnt("claim", deeds, good[:7] + (claim,), machine, inputs)


class Empty(Looking):
    def test_nothing_at_all(self):
        for machine in (MACHINE, (2, 1, 1, 1), (12, 6, 16, 10)):
            self.let_by((), (), machine, ())

    def test_at_first_all_is_nought(self):
        self.bears_out((), (same(W, num(0)), same(C, num(0)), same(W, C), less(W, num(1)), less(C, num(1))),
                       (same(W, num(1)), less(W, num(0)), less(W, C)), inputs=())

    def test_the_most_deeds_and_claims(self):
        self.let_by((("one",), ONCE) * 20, (same(W, num(20)),) * 8, inputs=())


class Shift(Looking):
    def test_places_from_nought_to_top(self):
        for machine in (MACHINE, (10, 1, 16, 10), (10, 4, 4, 4), (2, 3, 9, 1), (12, 6, 16, 10)):
            last = min(machine[2] - machine[1], machine[3] - 1)
            self.let_by((("shift", last), ("shift", -last), ("shift", 0)), (), machine, ())
            self.isnt("shift", (("shift", -1),), (), machine, ())
            self.isnt("shift", (("shift", last + 1),), (), machine, ())
            self.isnt("shift", (("shift", last), ("shift", 1),), (), machine, ())
            self.isnt("shift", (("shift", last), ("shift", -last - 1),), (), machine, ())

    def test_the_first_one_that_is_not_let_by_is_told(self):
        deeds = (("shift", 2), ("shift", 1), ("shift", -1), ("shift", 1))
        self.assertEqual(looked(MACHINE, ((), deeds, ())), (1, "shift"))

    def test_there_and_back(self):
        self.bears_out((("shift", 2), ("one",), ("turn", 1, 1), ("shift", -2), ("turn", 1, 1)),
                       (same(W, num(101)), same(C, num(101))), (same(W, num(2)),))


class Turn(Looking):
    def test_turns_add_and_take_away_what_is_set(self):
        self.bears_out((("load", "a"), ("turn", 1, 1), ("load", "b"), ("turn", 1, 1)),
                       (same(W, add(A, B)), same(W, add(B, A)), same(C, num(2))), (same(W, A), same(W, add(A, A))))
        self.bears_out((("load", "d"), ("shift", 1), ("turn", 1, 1), ("one",), ("turn", -1, -1)),
                       (same(add(W, num(10)), times(num(10), D)), same(C, num(0))), (same(W, times(num(10), D)),))

    def test_the_wheels_low_may_be_nought(self):
        self.let_by((("one",), ONCE, ("turn", -1, 0)))
        self.isnt("over", (("one",), ("turn", -1, 0)))
        self.isnt("over", (("one",), ONCE, ("turn", -1, 0), ("turn", -1, 0)))
        self.let_by((("load", "d"), ONCE, ("one",), ("turn", -1, 0)))
        self.isnt("over", (("load", "d"), ONCE, ("one",), ("turn", -1, 0), ("turn", -1, 0)))
        self.isnt("over", (("load", "a"), ONCE, ("one",), ("turn", -1, 0)))

    def test_bounds_are_kept_though_the_sums_come_to_nought(self):
        self.isnt("over", (("load", "a"), ONCE, ("turn", -1, 0)))
        self.isnt("over", (("load", "n"), ONCE, ("turn", -1, 0)))
        self.let_by((("one",),) + (ONCE,) * 9 + (("load", "b"), ("turn", -1, 0)))
        self.isnt("over", (("one",),) + (ONCE,) * 8 + (("load", "b"), ("turn", -1, 0)))

    def test_what_is_taken_away_at_a_place(self):
        self.let_by((("shift", 1), ("load", "d"), ONCE, ("one",), ("turn", -1, 0)))
        self.isnt("over", (("load", "d"), ONCE, ("shift", 1), ("one",), ("turn", -1, 0)))

    def test_the_high_is_less_the_low_of_what_is_taken_away(self):
        machine = (10, 1, 1, 1)
        nine = (("load", "n"), ONCE)
        self.isnt("over", nine + (("one",), ONCE), (), machine, (("n", 1, 1),))
        self.let_by(nine + (("one",), ("turn", -1, 0), ONCE), (), machine, (("n", 1, 1),))
        self.isnt("over", nine + (("one",), ("turn", -1, 0), ONCE, ONCE), (), machine, (("n", 1, 1),))

    def test_the_wheels_high_may_be_the_power_less_one(self):
        for base in (2, 3, 10, 12):
            machine, inputs = (base, 1, 1, 1), (("b", 1, 0),)
            self.let_by((("load", "b"), ONCE), (), machine, inputs)
            self.let_by((("one",),) + (ONCE,) * (base - 1), (), machine, inputs)
            self.isnt("over", (("one",),) + (ONCE,) * base, (), machine, inputs)
            self.isnt("over", (("load", "b"), ONCE, ("one",), ONCE), (), machine, inputs)
            self.isnt("over", (("load", "b"), ONCE, ONCE), (), machine, inputs)

    def test_the_high_at_a_place(self):
        machine = (10, 1, 2, 2)
        inputs = (("b", 1, 0),)
        full = (("load", "b"), ONCE, ("shift", 1), ONCE)
        self.let_by(full, (), machine, inputs)
        self.isnt("over", full + (ONCE,), (), machine, inputs)
        self.isnt("over", full + (("shift", -1), ONCE), (), machine, inputs)


class Turns(Looking):
    def test_as_often_as_a_figure_tells(self):
        deeds = (("load", "d"), ("turns", "b", 0, 1, 1))
        self.bears_out(deeds, (same(W, times(B, D)), same(W, times(D, B)), same(C, B)), (same(W, D), same(C, D)))

    def test_all_figures_of_an_input(self):
        deeds = (("load", "d"), ("turns", "a", 0, 1, 1), ("shift", 1), ("turns", "a", 1, 1, 1))
        self.bears_out(deeds, (same(W, times(A, D)), same(C, A)), (same(W, times(A, A)), same(C, D)))
        swapped = (("load", "d"), ("turns", "a", 1, 1, 1), ("shift", 1), ("turns", "a", 0, 1, 1))
        self.bears_out(swapped, (), (same(W, times(A, D)), same(C, A)))

    def test_a_square(self):
        deeds = (("load", "a"), ("turns", "a", 0, 1, 1), ("shift", 1), ("turns", "a", 1, 1, 1))
        self.bears_out(deeds, (same(W, times(A, A)), same(C, A)), (same(W, A),))

    def test_the_high_is_base_less_one_times_what_is_set(self):
        machine, inputs = (10, 2, 3, 1), (("a", 2, 0), ("b", 1, 1))
        self.let_by((("load", "a"), ("turns", "b", 0, 1, 0)), (), machine, inputs)
        tens = (("load", "a"), ("turns", "b", 0, 1, 0), ONCE)
        self.let_by(tens, (), machine, inputs)
        self.let_by(tens + (("load", "b"), ONCE), (), machine, inputs)
        self.isnt("over", tens + (("load", "b"), ONCE, ("one",), ONCE), (), machine, inputs)
        self.isnt("over", tens + (ONCE,), (), machine, inputs)

    def test_the_low_is_nought(self):
        deeds = (("load", "d"), ("turns", "n", 0, 1, 0))
        self.let_by(deeds)
        self.isnt("over", deeds + (("one",), ("turn", -1, 0)))
        self.isnt("counts", (("turns", "n", 0, 1, 1), ("turn", 1, -1)))

    def test_taken_away(self):
        inputs = (("b", 1, 0),)
        up = (("one",),) + (ONCE,) * 9
        self.let_by(up + (("turns", "b", 0, -1, 0),), (same(add(W, B), num(9)),), MACHINE, inputs)
        self.isnt("over", up[:-1] + (("turns", "b", 0, -1, 0),), (), MACHINE, inputs)
        self.isnt("over", up + (("shift", 1), ("turns", "b", 0, -1, 0),), (), MACHINE, inputs)
        machine = (10, 1, 1, 1)
        self.let_by(up + (("turns", "b", 0, -1, 0),), (), machine, inputs)
        self.isnt("over", up + (("turns", "b", 0, -1, 0), ONCE), (), machine, inputs)

    def test_with_nothing_set_they_only_count(self):
        self.bears_out((("turns", "b", 0, -1, 1),), (same(W, num(0)), same(C, B)), (same(C, num(0)),))


class Counts(Looking):
    def test_the_low_may_be_nought(self):
        self.let_by((("turn", 1, 1), ("turn", 1, -1)), (same(C, num(0)),))
        self.isnt("counts", (("turn", 1, -1),))
        self.isnt("counts", (("turn", 1, 1), ("turn", 1, -1), ("turn", 1, -1)))
        self.isnt("counts", (("turn", 1, 1), ("shift", 1), ("turn", 1, -1)))
        self.let_by((("turn", 1, 1),) * 9 + (("turns", "b", 0, 1, -1),), (same(add(C, B), num(9)),))
        self.isnt("counts", (("turn", 1, 1),) * 8 + (("turns", "b", 0, 1, -1),))

    def test_the_high_may_be_the_power_less_one(self):
        for base in (2, 3, 10, 12):
            machine, inputs = (base, 1, 2, 1), (("b", 1, 0),)
            self.let_by((("turn", 1, 1),) * (base - 1), (), machine, inputs)
            self.isnt("counts", (("turn", 1, 1),) * base, (), machine, inputs)
            self.let_by((("turns", "b", 0, 1, 1),), (), machine, inputs)
            self.isnt("counts", (("turns", "b", 0, 1, 1), ("turn", 1, 1)), (), machine, inputs)

    def test_the_high_at_a_place(self):
        machine, inputs = (10, 1, 2, 2), (("b", 1, 0),)
        full = (("turns", "b", 0, 1, 1), ("shift", 1), ("turns", "b", 0, 1, 1))
        self.let_by(full, (), machine, inputs)
        self.isnt("counts", full + (("turn", 1, 1),), (), machine, inputs)
        self.isnt("counts", full + (("shift", -1), ("turn", 1, 1)), (), machine, inputs)
        self.let_by(full + (("turn", 1, 0),), (), machine, inputs)

    def test_the_high_is_less_the_low_of_what_is_taken_away(self):
        machine, inputs = (10, 1, 2, 1), (("b", 1, 0),)
        nine = (("turn", 1, 1),) * 9
        self.let_by(nine + (("turn", 1, -1), ("turn", 1, 1)), (), machine, inputs)
        self.isnt("counts", nine + (("turns", "b", 0, 1, -1), ("turn", 1, 1)), (), machine, inputs)

    def test_they_are_asked_behind_the_others(self):
        machine = (10, 1, 1, 1)
        self.isnt("over", (("one",), ("turn", -1, -1)), (), machine, ())
        self.isnt("over", (("one",), ("turns", "b", 0, -1, -1)), (), machine, (("b", 1, 0),))
        self.isnt("zero", (("one",), ONCE, ("load", "b"), ("bell", -1)), (), machine, (("b", 1, 0),))
        self.isnt("odds", (("odds", -1),), (), machine, ())
        self.isnt("odds", (("load", "b"), ONCE, ("one",), ("odds", -1)), (), (3, 1, 2, 1), (("b", 1, 0),))

    def test_wiped(self):
        machine = (10, 1, 2, 1)
        self.let_by((("turn", 1, 1),) * 9 + (("wipe", "counts"),) + (("turn", 1, 1),) * 9, (same(C, num(9)),),
                    machine, ())
        self.isnt("counts", (("turn", 1, 1),) * 9 + (("wipe", "wheels"), ("turn", 1, 1)), (), machine, ())
        self.isnt("counts", (("turn", 1, 1), ("wipe", "counts"), ("turn", 1, -1)), (), machine, ())


class Wipe(Looking):
    def test_the_wheels_are_nought_with_their_bounds(self):
        machine = (10, 1, 1, 1)
        inputs = (("b", 1, 0),)
        self.let_by((("load", "b"), ONCE, ("wipe", "wheels"), ONCE), (same(W, B),), machine, inputs)
        self.isnt("over", (("load", "b"), ONCE, ("wipe", "counts"), ONCE), (), machine, inputs)
        self.isnt("over", (("one",), ONCE, ("wipe", "wheels"), ("turn", -1, 0)), (), machine, inputs)
        self.let_by((("load", "b"), ("turn", 1, 1), ("wipe", "wheels")), (same(W, num(0)), same(C, num(1))), machine,
                    inputs)

    def test_slides_and_place_stay(self):
        self.bears_out((("load", "b"), ("shift", 1), ("wipe", "wheels"), ("wipe", "counts"), ("turn", 1, 1)),
                       (same(W, times(num(10), B)), same(C, num(10))), ())


class Bell(Looking):
    def test_zero_where_what_is_set_may_be_nought(self):
        self.isnt("zero", (("bell", 0),))
        self.isnt("zero", (("load", "a"), ("bell", 0)))
        self.let_by((("load", "d"), ("bell", 0)))
        self.let_by((("one",), ("bell", 0)))
        self.let_by((("load", "a"), ONCE, ("one",), ("bell", 0), ("load", "n"), ("bell", 0)))

    def test_what_is_left_and_what_is_counted(self):
        self.bears_out((("load", "a"), ONCE, ("load", "d"), ("bell", 1)),
                       (same(add(W, times(C, D)), A), same(A, add(times(D, C), W)), less(W, D)),
                       (same(W, A), less(W, A), same(add(W, C), A)))

    def test_at_a_place(self):
        self.bears_out((("load", "a"), ONCE, ("load", "d"), ("shift", 1), ("bell", 1)),
                       (same(add(W, times(C, D)), A), less(W, times(D, num(10)))), (less(W, D),))

    def test_the_greatest_is_the_wheels_high_by_the_least_set(self):
        for base in (2, 3, 10):
            machine, inputs = (base, 1, 4, 1), (("b", 1, 0),)
            deeds = (("load", "b"), ONCE, ("one",), ("bell", 1))
            self.let_by(deeds, (less(C, num(base)),), machine, inputs)
            self.isnt("claim", deeds, (less(C, num(base - 1)),), machine, inputs)
            more = (("load", "b"), ONCE, ("one",), ONCE, ("bell", 1))
            self.isnt("counts", more, (), machine, inputs)

    def test_the_greatest_at_a_place_is_rounded_down(self):
        machine, inputs = (10, 2, 4, 2), (("a", 2, 0),)
        deeds = (("load", "a"), ONCE, ("shift", 1), ("one",), ("bell", 1))
        self.bears_out(deeds, (less(C, num(91)),), (less(C, num(90)),), machine, inputs)
        self.bears_out((("one",),) + (ONCE,) * 19 + (("shift", 1), ("bell", 1)), (less(C, num(11)),),
                       (less(C, num(10)),), machine, inputs)

    def test_the_high_behind_it_is_the_lesser(self):
        machine, inputs = (10, 2, 2, 1), (("a", 2, 0), ("n", 1, 1))
        by_setting = (("load", "a"), ONCE, ("load", "n"), ("bell", 0), ("load", "a"))
        self.isnt("over", by_setting + (ONCE,), (), machine, inputs)
        rest = (("load", "a"), ONCE, ("load", "n"), ("bell", 0), ("one",))
        self.let_by(rest + (ONCE,) * 35, (), machine, inputs)
        many = (("load", "a"), ONCE, ("load", "n"), ("bell", 0), ("load", "n"))
        self.let_by(many + (ONCE,) * 10 + (("one",), ONCE), (), machine, inputs)
        self.isnt("over", many + (ONCE,) * 10 + (("one",), ONCE, ONCE), (), machine, inputs)
        small = (("load", "n"), ONCE, ("shift", 0), ("load", "d"), ("bell", 0), ("load", "n"))
        inputs = (("n", 1, 1), ("d", 2, 1))
        self.let_by(small + (ONCE,) * 10, (), machine, inputs)
        self.isnt("over", small + (ONCE,) * 11, (), machine, inputs)

    def test_the_low_behind_it_is_nought(self):
        deeds = (("load", "d"), ONCE, ("one",), ONCE, ("load", "n"), ("bell", 0))
        self.isnt("over", deeds + (("one",), ("turn", -1, 0)))

    def test_the_count_goes_down(self):
        nine = (("turn", 1, 1),) * 9
        self.let_by(nine + (("load", "b"), ONCE, ("one",), ("bell", -1)))
        self.isnt("counts", nine[1:] + (("load", "b"), ONCE, ("one",), ("bell", -1)))


class Fact(Looking):
    """The fact u, as a bound for a bell's letter, and as what makes a claim so."""

    CUT = (("load", "a"), ONCE, ("load", "d"), ("bell", 0))

    def test_begin_has_none(self):
        self.isnt("claim", (("load", "d"),), (less(W, D),))

    def test_deeds_that_leave_it(self):
        for deeds in ((), (("one",),), (("load", "b"),), (("shift", 1),), (("wipe", "counts"),),
                      (("shift", 1), ("load", "d"), ("shift", -1), ("one",))):
            self.let_by(self.CUT + deeds, (less(W, D),))

    def test_deeds_behind_which_it_is_gone(self):
        for deeds in ((("wipe", "wheels"),), (("one",), ONCE, ("turn", -1, 0)), (("one",), ("turns", "b", 0, 1, 0)),
                      (ONCE,), (("wipe", "wheels"), ("turn", 1, 1))):
            self.isnt("claim", self.CUT + deeds, (less(W, D),))

    def test_turns_make_it_gone_though_there_may_be_none(self):
        inputs = (("d", 1, 1), ("b", 1, 0))
        bound = (("load", "d"), ("bell", 0))
        self.let_by(bound, (less(W, D),), MACHINE, inputs)
        self.isnt("claim", bound + (("turns", "b", 0, 1, 0),), (less(W, D),), MACHINE, inputs)
        self.isnt("claim", bound + (("load", "b"), ONCE), (less(W, D),), MACHINE, inputs)

    def test_another_bell_makes_another_fact(self):
        self.bears_out(self.CUT + (("load", "n"), ("bell", 0)), (less(W, N),), (less(W, D),))

    def test_the_claim_is_asked_as_sums(self):
        self.bears_out(self.CUT, (less(add(W, A), add(A, D)), less(add(W, num(7)), add(num(7), D))),
                       (less(W, add(D, num(1))), less(W, times(D, num(2))), less(num(0), D), less(W, A)))
        self.bears_out(self.CUT[:3] + (("shift", 1), ("bell", 0)),
                       (less(W, times(num(10), D)), less(W, times(D, num(10)))),
                       (less(W, D), less(W, times(num(11), D))))

    def test_a_bell_a_place_lower_is_bounded_by_it(self):
        machine, inputs = (10, 2, 4, 2), (("a", 2, 0), ("d", 2, 1))
        deeds = (("load", "a"), ONCE, ("load", "d"), ("shift", 1), ("bell", 1), ("shift", -1))
        self.let_by(deeds + (("bell", 1),), (less(C, num(100)),), machine, inputs)
        self.isnt("claim", deeds + (("bell", 1),), (less(C, num(99)),), machine, inputs)
        for gone in ((("load", "a"), ("load", "d")), (("wipe", "counts"), ("shift", 0))):
            self.let_by(deeds + gone + (("bell", 1),), (), machine, inputs)
        gone = deeds + (("one",), ONCE, ("turn", -1, 0), ("load", "d"), ("bell", 1))
        self.isnt("counts", gone, (), machine, inputs)

    def test_it_bounds_only_where_the_same_sum_is_set(self):
        machine, inputs = (10, 2, 4, 2), (("a", 2, 0), ("d", 2, 1), ("dd", 2, 1))
        deeds = (("load", "a"), ONCE, ("load", "d"), ("shift", 1), ("bell", 1), ("shift", -1))
        self.isnt("counts", deeds + (("load", "dd"), ("bell", 1)), (), machine, inputs)
        self.isnt("counts", deeds + (("one",), ("bell", 1)), (), machine, inputs)

    def test_two_places_lower(self):
        machine, inputs = (10, 2, 4, 3), (("a", 2, 0), ("d", 2, 1))
        deeds = (("load", "a"), ONCE, ("shift", 2), ("load", "d"), ("bell", 0), ("shift", -2), ("bell", 1))
        self.bears_out(deeds, (less(C, num(100)),), (less(C, num(99)),), machine, inputs)
        wide = (("load", "a"), ("shift", 2), ONCE, ("load", "d"), ("bell", 0), ("shift", -2), ("bell", 1))
        self.bears_out(wide, (less(C, num(100)),), (less(C, num(99)),), machine, inputs)

    def test_at_the_same_place_nothing_is_left_to_take_away(self):
        machine, inputs = (10, 2, 4, 1), (("a", 2, 0), ("d", 2, 1))
        deeds = (("load", "a"), ONCE, ("load", "d"), ("bell", 0), ("bell", 1))
        self.bears_out(deeds, (less(C, num(1)),), (less(C, num(0)), same(C, num(0))), machine, inputs)

    def test_a_place_higher_it_is_no_bound(self):
        machine, inputs = (10, 2, 4, 2), (("a", 2, 0), ("d", 2, 1))
        deeds = (("load", "a"), ONCE, ("load", "d"), ("bell", 0), ("shift", 1), ("bell", 1))
        self.bears_out(deeds, (less(C, num(91)), less(W, times(num(10), D))), (less(C, num(90)), less(W, D)),
                       machine, inputs)

    def test_the_wheels_high_may_be_the_lesser_bound(self):
        machine, inputs = (10, 2, 4, 3), (("b", 1, 0),)
        deeds = (("load", "b"), ONCE, ("one",), ("shift", 2), ("bell", 0), ("shift", -2), ("bell", 1))
        self.bears_out(deeds, (less(C, num(10)),), (less(C, num(9)),), machine, inputs)


class Odds(Looking):
    def deeds(self, high):
        """The wheels come to b, and the ones that are added, and no more than high, from 9 on."""
        return (("load", "b"), ONCE, ("one",)) + (ONCE,) * (high - 9) + (("odds", 1),)

    def test_what_is_left_and_counted_and_set(self):
        self.bears_out(self.deeds(9),
                       (same(add(W, times(C, C)), B), less(W, add(add(C, C), num(1))), less(C, num(4))),
                       (same(W, B), less(W, C), less(C, num(3)), less(W, num(6))))
        self.bears_out(self.deeds(9) + (("wipe", "wheels"), ONCE), (same(W, add(C, add(num(1), C))),), ())

    def test_one_must_be_set(self):
        self.isnt("odds", (("odds", 0),))
        self.isnt("odds", (("load", "d"), ("odds", 0)))
        self.isnt("odds", (("load", "n"), ("odds", 0)), (), (2, 1, 1, 1), (("n", 1, 1),))
        self.isnt("odds", self.deeds(9) + (("odds", 0),))
        self.isnt("odds", (("one",), ("odds", 0), ("odds", 0)))
        self.let_by(self.deeds(9) + (("one",), ("odds", 1)))

    def test_the_greatest_root(self):
        for high, root in ((9, 3), (15, 3), (16, 4), (24, 4), (25, 5)):
            self.bears_out(self.deeds(high), (less(C, num(root + 1)),), (less(C, num(root)),))

    def test_the_slides_must_tell_twice_the_greatest_and_one(self):
        inputs = (("b", 1, 0),)
        self.let_by(self.deeds(24), (), (10, 1, 4, 3), inputs)
        self.isnt("odds", self.deeds(25), (), (10, 1, 4, 3), inputs)
        deeds = (("one",),) + (ONCE,) * 15 + (("odds", 0),)
        self.let_by(deeds, (), (3, 2, 5, 3), ())
        self.isnt("odds", deeds[:-1] + (ONCE, ("odds", 0)), (), (3, 2, 5, 3), ())
        self.let_by((("one",), ("odds", 0)), (), (3, 1, 4, 3), ())
        self.isnt("odds", (("one",), ONCE, ("odds", 0)), (), (3, 1, 4, 3), ())
        self.let_by((("one",), ONCE, ONCE, ONCE, ("odds", 0)), (), (2, 2, 4, 3), ())
        self.isnt("odds", (("one",), ONCE, ONCE, ONCE, ONCE, ("odds", 0)), (), (2, 2, 4, 3), ())

    def test_at_a_place(self):
        deeds = (("load", "a"), ONCE, ("shift", 1), ("one",), ("odds", 1))
        self.bears_out(deeds, (same(add(times(num(10), W), times(C, C)), times(num(10), A)),
                               less(C, num(31)), less(W, add(add(C, C), num(10)))),
                       (less(C, num(30)), less(W, add(add(C, C), num(1)))))
        machine = (10, 1, 4, 3)
        self.let_by((("load", "b"), ("shift", 1), ONCE, ("one",), ("odds", 0)), (), machine, (("b", 1, 0),))
        self.isnt("odds", (("load", "b"), ("shift", 2), ONCE, ("shift", -1), ("one",), ("odds", 0)), (), machine,
                  (("b", 1, 0),))

    def test_the_wheels_behind_it(self):
        machine, inputs = (10, 2, 2, 1), (("a", 2, 0),)
        deeds = (("load", "a"), ONCE, ("one",), ("odds", 0), ("one",))
        # A root of 9 at most leaves 18 at most: 81 more is too many for two wheels, 33 is not.
        self.let_by(deeds + (ONCE,) * 33, (), machine, inputs)
        self.isnt("over", deeds + (("load", "a"), ONCE), (), machine, inputs)
        nine = deeds[:-1] + (("load", "c"),)
        more = inputs + (("c", 1, 0),)
        self.let_by(nine + (ONCE,) * 9, (), machine, more)
        self.isnt("over", nine + (ONCE,) * 10, (), machine, more)
        self.isnt("over", deeds + (("turn", -1, 0),), (), machine, inputs)

    def test_a_high_that_was_less_stays(self):
        machine, inputs = (10, 1, 1, 1), (("b", 1, 0),)
        deeds = (("one",), ONCE, ONCE, ("odds", 0))
        # Two on the wheels: a root of 1 would leave 2, and no more were there.
        self.let_by(deeds + (("one",),) + (ONCE,) * 7, (), machine, inputs)
        self.isnt("over", deeds + (("one",),) + (ONCE,) * 8, (), machine, inputs)
        self.let_by((("one",), ONCE, ("odds", 0), ("one",)) + (ONCE,) * 8, (), machine, inputs)
        self.isnt("over", (("one",), ONCE, ("odds", 0), ("one",)) + (ONCE,) * 9, (), machine, inputs)

    def test_what_is_set_behind_it_has_bounds(self):
        machine = (10, 2, 2, 1)
        deeds = (("load", "a"), ONCE, ("one",), ("odds", 0), ("wipe", "wheels"))
        inputs = (("a", 2, 0),)
        self.let_by(deeds + (ONCE,) * 5, (), machine, inputs)
        self.isnt("over", deeds + (ONCE,) * 6, (), machine, inputs)
        self.let_by(deeds + (ONCE, ("one",), ("turn", -1, 0)), (), machine, inputs)
        self.isnt("over", deeds + (ONCE, ("one",), ("turn", -1, 0), ("turn", -1, 0)), (), machine, inputs)

    def test_a_bell_behind_it(self):
        machine, inputs = (10, 2, 4, 2), (("a", 2, 0),)
        deeds = (("load", "a"), ONCE, ("one",), ("odds", 0))
        self.bears_out(deeds + (("bell", 1),), (less(C, num(1)),), (less(C, num(0)),), machine, inputs)
        self.bears_out(deeds + (("one",), ("bell", 1)), (less(C, num(19)), less(W, num(1))), (less(C, num(18)),),
                       machine, inputs)

    def test_the_fact_is_there_and_gone(self):
        claim = less(W, add(add(C, C), num(1)))
        self.let_by(self.deeds(9) + (("load", "a"), ("shift", 1)), (claim,))
        self.isnt("claim", self.deeds(9) + (("load", "n"), ONCE), (claim,))
        self.isnt("claim", self.deeds(9) + (("wipe", "counts"),), (claim,))

    def test_the_count(self):
        self.let_by((("turn", 1, 1),) * 3 + self.deeds(9)[:-1] + (("odds", -1),))
        self.isnt("counts", (("turn", 1, 1),) * 2 + self.deeds(9)[:-1] + (("odds", -1),))
        self.let_by((("turn", 1, 1),) * 6 + self.deeds(9), (), (10, 1, 4, 1), (("b", 1, 0),))
        self.isnt("counts", (("turn", 1, 1),) * 7 + self.deeds(9), (), (10, 1, 4, 1), (("b", 1, 0),))


class Claims(Looking):
    def test_same_is_asked_as_sums(self):
        square = add(add(times(A, A), times(B, B)), add(times(A, B), times(B, A)))
        self.bears_out((), (same(times(add(A, B), add(B, A)), square), same(add(A, num(0)), A),
                            same(times(A, num(0)), W), same(times(num(1), A), A), same(num(5), add(num(2), num(3))),
                            same(A, A)),
                       (same(A, B), same(A, num(0)), same(times(A, A), A), same(add(A, A), A), same(N, A),
                        same(times(add(A, B), add(A, B)), add(times(A, A), times(B, B)))))

    def test_four_deep(self):
        eighth = times(times(times(B, B), times(B, B)), times(times(B, B), times(B, B)))
        one_by_one = times(times(times(times(B, B), B), B), B)[1]
        self.bears_out((), (same(eighth, eighth), same(one_by_one, times(times(B, B), times(B, B)))),
                       (same(eighth, one_by_one),))

    def test_names_that_begin_alike(self):
        inputs = (("a", 2, 0), ("ab", 1, 0), ("aba", 1, 1), ("b", 2, 0))
        a, ab, aba, b = (("input", name) for name in ("a", "ab", "aba", "b"))
        bad = (same(a, ab), same(ab, times(a, b)), same(aba, times(a, times(b, a))), same(aba, times(ab, a)),
               same(times(ab, a), times(times(a, a), b)), same(add(a, b), ab), less(a, add(ab, num(10))))
        self.bears_out((("load", "ab"), ("turns", "aba", 0, 1, 1)),
                       (same(W, times(ab, aba)), same(C, aba), same(times(ab, aba), times(aba, ab))),
                       bad + (same(W, times(ab, a)), same(C, ab), same(C, a)), MACHINE, inputs)
        for name in ("a", "ab", "aba", "b"):
            for other in ("a", "ab", "aba", "b"):
                deeds = (("load", name), ("turns", other, 0, 1, 1))
                for claimed in ("ab", "aba"):
                    claim = same(C, ("input", claimed))
                    if claimed == other:
                        self.let_by(deeds, (claim,), MACHINE, inputs)
                    else:
                        self.isnt("claim", deeds, (claim,), MACHINE, inputs)

    def test_names_of_eight_letters_and_of_words(self):
        inputs = (("abcdefgh", 1, 0), ("abcdefgi", 1, 0), ("q", 1, 0), ("f", 1, 1))
        one, two, q, f = (("input", row[0]) for row in inputs)
        self.bears_out((("load", "q"), ONCE, ("load", "f"), ("bell", 1)),
                       (same(add(W, times(C, f)), q), less(W, f), same(times(one, two), times(two, one))),
                       (same(one, two), same(C, q), same(W, f), same(C, f)), MACHINE, inputs)

    def test_figures_of_one_input_are_not_mixed_up(self):
        deeds = (("turns", "a", 1, 1, 1),)
        self.bears_out(deeds, (), (same(C, A), same(C, B)))
        self.bears_out((("turns", "a", 0, 1, 1), ("shift", 1), ("turns", "a", 1, 1, 1)), (same(C, A),), (same(C, D),))

    def test_less_comes_to_just_one_or_nought(self):
        self.bears_out((), (less(num(5), num(6)), less(num(0), num(10 ** 9)), less(B, num(10)), less(A, num(100)),
                            less(times(A, B), num(892)), less(times(B, B), num(82)), less(times(A, A), num(9802)),
                            less(add(A, B), num(109)), less(A, add(A, num(1))), less(A, add(add(A, B), num(1))),
                            less(times(times(B, B), B), num(730))),
                       (less(num(5), num(5)), less(num(6), num(5)), less(num(10 ** 9), num(0)), less(B, num(9)),
                        less(A, num(99)), less(times(A, B), num(891)), less(times(B, B), num(81)),
                        less(times(A, A), num(9801)), less(add(A, B), num(108)), less(A, A), less(A, add(A, B)),
                        less(times(times(B, B), B), num(729))))

    def test_a_product_with_a_share_above_nought_is_taken_as_nought(self):
        # It is so for all values, as d is 1 at least; but its figures may each be 0.
        self.bears_out((), (less(num(0), add(D, num(1))),), (less(num(0), D), less(num(0), times(D, D))))

    def test_what_both_sides_have_is_asked_once(self):
        twice = times(num(2), B)
        self.bears_out((), (less(times(A, B), add(times(B, A), num(1))), less(twice, add(twice, num(1))),
                            less(B, add(twice, num(1))), less(twice, add(B, num(10)))),
                       (less(twice, add(B, num(9))), less(add(B, num(1)), add(twice, num(1)))))

    def test_in_other_bases(self):
        for base in (2, 3, 12):
            machine, inputs = (base, 2, 4, 3), (("a", 2, 0), ("b", 1, 1))
            high = base ** 2 - 1
            most = high * (base - 1)
            self.bears_out((), (less(A, num(high + 1)), less(B, num(base)), less(times(A, B), num(most + 1))),
                           (less(A, num(high)), less(B, num(base - 1)), less(times(A, B), num(most))), machine, inputs)

    def test_the_first_claim_that_is_not_let_by_is_told(self):
        good, bad = same(A, A), same(A, B)
        for at in range(8):
            claims = (good,) * at + (bad,) + (good, bad) * 4
            self.assertEqual(looked(MACHINE, (INPUTS, (), claims[:8])), (at, "claim"))

    def test_deeds_go_ahead_of_claims(self):
        self.assertEqual(looked(MACHINE, (INPUTS, (("one",), ("bell", 1), ("shift", 9)), (same(A, B),))), (2, "shift"))

    def test_claims_that_are_not_so(self):
        for deeds, claim in (((("load", "a"), ("turn", 1, 1)), same(W, B)),
                             ((("load", "a"), ONCE, ("load", "d"), ("bell", 1)), same(C, num(1))),
                             ((("load", "a"), ONCE, ("load", "d"), ("bell", 1)), less(W, num(98))),
                             ((("load", "b"), ONCE, ("one",), ("odds", 1)), same(times(C, C), B)),
                             ((("load", "b"), ONCE, ("one",), ("odds", 1)), less(W, add(C, C)))):
            self.isnt("claim", deeds, (claim,))


class Kinds(Looking):
    def test_the_answer_is_none_or_a_tuple_of_a_number_and_a_word(self):
        self.assertIs(looked(MACHINE, (INPUTS, (), ())), None)
        answer = looked(MACHINE, (INPUTS, (("shift", 9),), ()))
        self.assertEqual([type(answer)] + [type(part) for part in answer], [tuple, int, str])

    def test_asked_again_it_tells_the_same(self):
        books = (
            (INPUTS, Fact.CUT, (less(W, D),)), (INPUTS, Fact.CUT + (ONCE,), (less(W, D),)),
            (INPUTS, (("load", "b"), ONCE, ("one",), ("odds", 1)), (same(add(W, times(C, C)), B),)),
            (INPUTS, (("bell", 1),), ()), (INPUTS, (("turn", 1, -1),), ()),
        )
        first = [looked(MACHINE, book) for book in books]
        self.assertEqual(first, [None, (0, "claim"), None, (0, "zero"), (0, "counts")])
        for turn in range(3):
            self.assertEqual([looked(MACHINE, book) for book in books], first)
