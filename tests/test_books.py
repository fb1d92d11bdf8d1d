import unittest

from crankdrum.books import need_book
from crankdrum.errors import BadBook, BadDeed, BadMachine, BadValue, DrumError, Stuck, TooSmall
from crankdrum.looking import looked
from crankdrum.working import worked

MACHINE = (10, 3, 6, 4)
W, C, ONE = ("wheels",), ("counts",), ("num", 1)
A = (("a", 2, 0),)
INPUTS = (("a", 2, 0), ("b", 3, 1))
DEEDS = (("load", "a"), ("turn", 1, 1), ("turns", "b", 2, 1, 0), ("one",), ("bell", 0))
CLAIMS = (("same", W, W), ("less", ("num", 3), ("num", 4)))


def nested(word, deep):
    """A side that is so deep on the left, and one on the right."""
    return (word, nested(word, deep - 1), ONE) if deep > 1 else W


def mirrored(word, deep):
    """A side that is so deep on the right, and one on the left."""
    return (word, ONE, mirrored(word, deep - 1)) if deep > 1 else C


GOOD_INPUTS = (
    (),
    (("a", 1, 0),),
    (("z", 3, 1),),
    (("abcdefgh", 1, 0),),
    (("zyxwvuts", 2, 0),),
    (("wheel", 1, 0), ("count", 1, 1), ("wheelss", 1, 0), ("setting", 3, 0)),
    (("a", 1, 0), ("aa", 2, 1), ("aaa", 3, 0), ("aaaa", 1, 1)),
    (("num", 1, 0), ("input", 1, 0), ("load", 1, 0), ("same", 1, 0)),
)

BAD_INPUTS = (
    ((("a", 1, 0), ("b", 1, 0), ("c", 1, 0), ("d", 1, 0), ("e", 1, 0)), 0),
    ((("a", 1, 0), ("b", 9, 0), ("c", 1, 0), ("d", 1, 0), ("e", 1, 0), ("f", 1, 0)), 0),
    ((("abcdefghi", 1, 0),), 0),
    ((("a", 1, 0), ("", 1, 0)), 1),
    ((("A", 1, 0),), 0),
    ((("a", 1, 0), ("b", 1, 0), ("aB", 1, 0)), 2),
    ((("Ab", 1, 0),), 0),
    ((("a1", 1, 0),), 0),
    ((("1", 1, 0),), 0),
    ((("a_b", 1, 0),), 0),
    ((("a b", 1, 0),), 0),
    (((" ", 1, 0),), 0),
    ((("a\n", 1, 0),), 0),
    ((("\u00e4", 1, 0),), 0),
    ((("\u00df", 1, 0),), 0),
    ((("`", 1, 0),), 0),
    ((("{", 1, 0),), 0),
    ((("wheels", 1, 0),), 0),
    ((("a", 1, 0), ("counts", 1, 0)), 1),
    ((("a", 1, 0), ("a", 1, 0)), 1),
    ((("a", 1, 0), ("b", 1, 0), ("c", 1, 0), ("a", 2, 1)), 3),
    ((("a", 1, 0), ("b", 1, 0), ("b", 1, 0), ("a", 2, 1)), 2),
    ((("a", 0, 0),), 0),
    ((("a", -1, 0),), 0),
    ((("a", 3, 0), ("b", 4, 0)), 1),
    ((("a", 99, 0),), 0),
    ((("a", 1, 2),), 0),
    ((("a", 1, 1), ("b", 1, -1)), 1),
    ((("a", 1),), 0),
    ((("a", 1, 0, 0),), 0),
    (((),), 0),
    ((("a", 1, 0), ("b", 4, 0), ("C", 1, 0)), 1),
    ((("a", 4, 2), ("", 0, 5)), 0),
)

GOOD_DEEDS = (
    ("load", "a"), ("load", "b"), ("one",),
    ("shift", 0), ("shift", 3), ("shift", -3), ("shift", 4), ("shift", -99), ("shift", 99),
    ("turn", 1, 1), ("turn", 1, 0), ("turn", 1, -1), ("turn", -1, 1), ("turn", -1, 0), ("turn", -1, -1),
    ("wipe", "wheels"), ("wipe", "counts"),
    ("turns", "a", 0, 1, 1), ("turns", "a", 1, -1, -1), ("turns", "b", 0, 1, 0), ("turns", "b", 2, -1, 1),
    ("bell", -1), ("bell", 0), ("bell", 1), ("odds", -1), ("odds", 0), ("odds", 1),
)

BAD_DEEDS = (
    ("",), ("hop",), ("Load", "a"), ("ONE",), ("loads", "a"), ("set", 0, 1), ("num", 1), ("wheels",), ("same", W, W),
    ("load",), ("load", "c"), ("load", ""), ("load", "aa"), ("load", "a", "b"), ("load", "wheels"),
    ("one", 1), ("one", 0, 0),
    ("shift",), ("shift", 0, 0), ("shift", 1, 1),
    ("turn",), ("turn", 1), ("turn", 1, 1, 1), ("turn", 0, 0), ("turn", 2, 0), ("turn", -2, 0),
    ("turn", 1, 2), ("turn", 1, -2), ("turn", -1, 9),
    ("wipe",), ("wipe", "setting"), ("wipe", "wheel"), ("wipe", ""), ("wipe", "a"), ("wipe", "wheels", "counts"),
    ("turns",), ("turns", "a"), ("turns", "a", 0), ("turns", "a", 0, 1), ("turns", "a", 0, 1, 1, 1),
    ("turns", "c", 0, 1, 1), ("turns", "a", -1, 1, 1), ("turns", "a", 2, 1, 1), ("turns", "b", 3, 1, 1),
    ("turns", "a", 0, 0, 1), ("turns", "a", 0, 2, 1), ("turns", "a", 0, -2, 1),
    ("turns", "a", 0, 1, 2), ("turns", "a", 0, 1, -2), ("turns", "a", 99, 1, 1),
    ("bell",), ("bell", 2), ("bell", -2), ("bell", 1, 1), ("odds",), ("odds", 2), ("odds", -2), ("odds", 0, 0),
)

GOOD_SIDES = (
    ("num", 0), ("num", 1), ("num", 10 ** 9), ("num", 10 ** 9 - 1), W, C, ("input", "a"), ("input", "b"),
    ("add", W, C), ("times", ("input", "a"), ("input", "b")), ("add", ("num", 0), ("num", 10 ** 9)),
    nested("add", 4), nested("times", 4), mirrored("add", 4), mirrored("times", 4),
    ("add", nested("times", 3), mirrored("times", 3)), ("times", mirrored("add", 3), nested("add", 3)),
)

BAD_SIDES = (
    ("num", -1), ("num", 10 ** 9 + 1), ("num", 10 ** 30), ("num",), ("num", 1, 1),
    ("wheels", 1), ("counts", 0), ("wheel",), ("count",), ("setting",), ("place",), ("Wheels",), ("",), ("a",),
    ("input",), ("input", "c"), ("input", ""), ("input", "wheels"), ("input", "a", "b"),
    ("add",), ("add", W), ("add", W, C, W), ("times",), ("times", C), ("times", W, C, W), ("less", W, C),
    ("same", W, C), ("sub", W, C), ("plus", W, C), ("add", W, ("num", -1)), ("add", ("num", 10 ** 9 + 1), W),
    ("times", W, ("input", "c")), ("times", ("input", "c"), W), ("times", W, ("add", W)), ("add", ("one",), W),
    nested("add", 5), nested("times", 5), mirrored("add", 5), mirrored("times", 5),
    nested("add", 6), mirrored("times", 400), ("add", nested("times", 3), mirrored("times", 4)),
    ("add", W, ("add", W, ("add", W, ("num", -1)))),
)

BAD_CLAIMS = (
    ("",), ("more", W, C), ("Same", W, C), ("add", W, C), ("wheels",), ("num", 1), ("one",), ("load", "a"),
    ("same",), ("same", W), ("same", W, C, W), ("less",), ("less", W), ("less", W, C, C),
)


class Taken(unittest.TestCase):
    def good(self, book, machine=MACHINE):
        self.assertIsNone(need_book(machine, book), (machine, book))

    def test_inputs(self):
        for inputs in GOOD_INPUTS:
            self.good((inputs, (), ()))

    def test_deeds(self):
        for deed in GOOD_DEEDS:
            self.good((INPUTS, (deed,), ()))
        self.good((INPUTS, GOOD_DEEDS, ()))
        self.good((INPUTS, (("one",),) * 40, ()))
        self.good((INPUTS, GOOD_DEEDS[-10:] * 4, CLAIMS))

    def test_claims(self):
        for side in GOOD_SIDES:
            for word in ("same", "less"):
                self.good((INPUTS, DEEDS, ((word, side, W),)))
                self.good((INPUTS, DEEDS, ((word, W, side),)))
        self.good((INPUTS, DEEDS, (("less", W, C),) * 8))

    def test_all_figures_and_the_last_one_of_each_machine(self):
        for machine in ((2, 1, 1, 1), (7, 4, 9, 2), (12, 6, 16, 10)):
            slides = machine[1]
            for least in (0, 1):
                self.good(((("n", slides, least),), (("turns", "n", slides - 1, 1, 1),), ()), machine)

    def test_neither_deeds_nor_claims_need_hold(self):
        self.good(((), (("shift", -5), ("bell", 1), ("odds", 1)), (("same", ("num", 0), ("num", 1)),)))


class Refused(unittest.TestCase):
    def bad(self, book, at, word, machine=MACHINE):
        calls = (
            lambda: need_book(machine, book),
            lambda: looked(machine, book),
            lambda: worked(machine, book, {name[0]: 1 for name in book[0] if name}),
            lambda: worked(machine, book, {}),
            lambda: worked(machine, book, {"a": -1, "q": 5}),
        )
        for call in calls:
            with self.assertRaises(BadBook, msg=(machine, book)) as caught:
                call()
            self.assertEqual((caught.exception.at, caught.exception.word), (at, word), (machine, book))

    def test_inputs(self):
        for inputs, at in BAD_INPUTS:
            self.bad((inputs, (), ()), at, "input")

    def test_figures_are_no_more_than_the_machine_has_slides(self):
        for machine in ((2, 1, 1, 1), (7, 4, 9, 2), (12, 6, 16, 10)):
            for figures in (0, machine[1] + 1):
                self.bad(((("n", 1, 0), ("m", figures, 0)), (), ()), 1, "input", machine)

    def test_deeds(self):
        for deed in BAD_DEEDS:
            self.bad((INPUTS, (deed,), ()), 0, "deed")
            self.bad((INPUTS, DEEDS + (deed,) + DEEDS, CLAIMS), len(DEEDS), "deed")

    def test_the_fortieth_deed(self):
        self.bad((INPUTS, (("one",),) * 39 + (("one", 1),), ()), 39, "deed")

    def test_forty_one_deeds(self):
        self.bad((INPUTS, (("one",),) * 41, ()), 0, "deed")
        self.bad((INPUTS, (("one",),) * 40 + (("hop",),), ()), 0, "deed")
        self.bad((INPUTS, (("one",),) * 5 + (("hop",),) + (("one",),) * 40, ()), 0, "deed")

    def test_claims(self):
        for claim in BAD_CLAIMS:
            self.bad((INPUTS, DEEDS, (claim,)), 0, "claim")
            self.bad((INPUTS, DEEDS, CLAIMS + (claim, claim)), len(CLAIMS), "claim")

    def test_sides(self):
        for side in BAD_SIDES:
            for word in ("same", "less"):
                self.bad((INPUTS, DEEDS, ((word, side, W),)), 0, "claim")
                self.bad((INPUTS, DEEDS, CLAIMS + ((word, W, side),)), len(CLAIMS), "claim")

    def test_nine_claims(self):
        self.bad((INPUTS, DEEDS, (("same", W, W),) * 9), 0, "claim")
        self.bad((INPUTS, DEEDS, (("same", W, W),) * 8 + (("same",),)), 0, "claim")
        self.bad((INPUTS, DEEDS, (("same", W, W),) * 7 + (("same",),)), 7, "claim")

    def test_the_first_wrong_of_a_part(self):
        self.bad((A + (("b", 0, 0), ("b", 4, 0)), (), ()), 1, "input")
        self.bad((A, (("one",), ("hop",), ("bell", 2)), ()), 1, "deed")
        self.bad((A, (), (("same", W, W), ("less", W, ("num", -1)), ("more", W, W))), 1, "claim")

    def test_inputs_go_ahead_of_deeds_and_deeds_of_claims(self):
        five = tuple((name, 1, 0) for name in "abcde")
        bad_deeds, bad_claims = (("hop",),), (("more", W, W),)
        self.bad((A + (("a", 1, 0),), bad_deeds, bad_claims), 1, "input")
        self.bad((five, bad_deeds, bad_claims), 0, "input")
        self.bad((A + (("b", 1, 5),), (("one",),) * 41, (("same", W, W),) * 9), 1, "input")
        self.bad((A, DEEDS[:2] + bad_deeds, bad_claims), 2, "deed")
        self.bad((A, (("one",),) * 41, bad_claims), 0, "deed")
        self.bad((A, (("one",), ("hop",)), (("same", W, W),) * 9), 1, "deed")

    def test_wrongs_go_ahead_of_what_is_not_let_by_or_stuck(self):
        self.bad((A, (("shift", 99), ("hop",)), ()), 1, "deed")
        self.bad((A, (("bell", 1),), (("same", W, W), ("same", W, ("input", "b")))), 1, "claim")

    def test_a_bad_machine_goes_ahead(self):
        for machine in ((1, 3, 6, 4), (10, 3, 6), (10, 3, 6, 11)):
            for book in (((("A", 9, 9),), (), ()), ((), (("hop",),), ()), ((), (), (("more",),)), ((), (), ())):
                for call in (need_book, looked, lambda machine, book: worked(machine, book, {"x": -1})):
                    self.assertRaises(BadMachine, call, machine, book)

    def test_it_is_a_drum_error_and_a_value_error_and_none_of_the_others(self):
        for taker in (DrumError, ValueError):
            with self.assertRaises(taker) as caught:
                need_book(MACHINE, ((), (("hop",),), ()))
            self.assertNotIsInstance(caught.exception, (BadMachine, BadDeed, BadValue, Stuck, TooSmall))
