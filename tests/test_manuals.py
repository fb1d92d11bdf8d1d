import itertools
import unittest

from crankdrum.errors import BadBook, BadDeed, BadMachine, BadValue, DrumError, Stuck, TooSmall
from crankdrum.books import need_book
from crankdrum.looking import looked
from crankdrum.manuals import product, quotient, root
from crankdrum.working import worked
from tests import reference
from tests.samples import BAD_MACHINES, GOOD_MACHINES, highest_place
from tests.reference import all_values, many_values

W, C = ("wheels",), ("counts",)
LARGE = (10, 3, 6, 4)

EDGE_MACHINES = GOOD_MACHINES + (
    (10, 2, 4, 2), (10, 2, 3, 2), (10, 2, 4, 1), (10, 3, 5, 3), (10, 3, 5, 2), (10, 3, 4, 3), (3, 1, 3, 1),
    (3, 2, 4, 1), (3, 2, 4, 2), (5, 3, 6, 1), (2, 2, 4, 1), (2, 4, 8, 2), (4, 3, 6, 1), (9, 2, 4, 2), (2, 1, 16, 10),
)


def every_machine():
    for base, slides, counters in itertools.product((2, 3, 4, 10, 12), range(1, 7), (1, 2, 3, 5, 6, 10)):
        for wheels in sorted({slides, slides + 1, slides + 2, min(2 * slides, 16), 11, 16}):
            yield base, slides, wheels, counters


def product_fits(machine, one, other):
    base, slides, wheels, counters = machine
    return max(one, other) <= slides and other <= highest_place(machine) + 1 and one + other <= wheels


def quotient_fits(machine, one, other):
    return max(one, other) <= machine[1] and one <= highest_place(machine) + 1


def root_fits(machine, one):
    base, slides, wheels, counters = machine
    greatest = reference.root(base ** one - 1)
    return one <= slides and 2 * greatest + 1 < base ** slides and greatest < base ** counters


def product_book(one, other):
    deeds = (("load", "a"), ("turns", "b", 0, 1, 1))
    for k in range(1, other):
        deeds += (("shift", 1), ("turns", "b", k, 1, 1))
    claims = (("same", W, ("times", ("input", "a"), ("input", "b"))), ("same", C, ("input", "b")))
    return (("a", one, 0), ("b", other, 0)), deeds, claims


def quotient_book(one, other):
    deeds = (("load", "n"), ("turn", 1, 0), ("load", "d"), ("shift", one - 1), ("bell", 1))
    deeds += (("shift", -1), ("bell", 1)) * (one - 1)
    n, d = ("input", "n"), ("input", "d")
    claims = (("same", ("add", W, ("times", C, d)), n), ("less", W, d))
    return (("n", one, 0), ("d", other, 1)), deeds, claims


def root_book(one):
    deeds = (("load", "n"), ("turn", 1, 0), ("one",), ("odds", 1))
    claims = (("same", ("add", W, ("times", C, C)), ("input", "n")),
              ("less", W, ("add", ("add", C, C), ("num", 1))))
    return (("n", one, 0),), deeds, claims


def edge_values(machine, inputs):
    """A few values of each input, in all ways together."""
    rows = []
    for name, figures, least in inputs:
        most = machine[0] ** figures - 1
        square = reference.root(most) ** 2
        rows.append(sorted({least, 1, most // 7 + 1, most // 2 + 1, square - 1, square, most - 1, most}))
    for row in itertools.product(*rows):
        yield {name: value for (name, figures, least), value in zip(inputs, row)}


class Manuals(unittest.TestCase):
    def check(self, machine, made, fits, book, ends):
        """A manual as points 11 and 12 tell it, or TooSmall."""
        if not fits:
            with self.assertRaises(TooSmall, msg=machine):
                made()
            return 0
        self.assertEqual(made(), book, machine)
        self.assertIsNone(need_book(machine, made()))
        self.assertIsNone(looked(machine, made()), (machine, made()))
        inputs = made()[0]
        few = many_values(machine, inputs) < 1500
        for values in all_values(machine, inputs) if few else edge_values(machine, inputs):
            self.assertEqual(worked(machine, made(), values), ends(*values.values()), (machine, values))
        return 1

    def check_root(self, machine, one):
        def ends(n):
            r = reference.root(n)
            return n - r * r, r
        return self.check(machine, lambda: root(machine, one), root_fits(machine, one), root_book(one), ends)

    def test_product(self):
        made = 0
        for machine in EDGE_MACHINES:
            for one, other in itertools.product(range(1, 8), repeat=2):
                made += self.check(machine, lambda: product(machine, one, other), product_fits(machine, one, other),
                                   product_book(one, other), lambda a, b: (a * b, b))
        self.assertGreater(made, 50)

    def test_quotient(self):
        made = 0
        for machine in EDGE_MACHINES:
            for one, other in itertools.product(range(1, 8), repeat=2):
                made += self.check(machine, lambda: quotient(machine, one, other), quotient_fits(machine, one, other),
                                   quotient_book(one, other), lambda n, d: (n % d, n // d))
        self.assertGreater(made, 50)

    def test_root(self):
        made = sum(self.check_root(machine, one) for machine in EDGE_MACHINES for one in range(1, 8))
        self.assertGreater(made, 25)

    def test_every_machine_is_just_large_enough_or_too_small(self):
        for machine in every_machine():
            for one in range(1, 8):
                self.fits_or_not(machine, root, (one,), root_fits(machine, one))
                for other in range(1, 8):
                    self.fits_or_not(machine, product, (one, other), product_fits(machine, one, other))
                    self.fits_or_not(machine, quotient, (one, other), quotient_fits(machine, one, other))

    def fits_or_not(self, machine, manual, many, fits):
        if fits:
            self.assertIsNone(looked(machine, manual(machine, *many)), (machine, many))
        else:
            self.assertRaises(TooSmall, manual, machine, *many)


class WrittenOut(unittest.TestCase):
    def test_product(self):
        self.assertEqual(product(LARGE, 3, 2), (
            (("a", 3, 0), ("b", 2, 0)),
            (("load", "a"), ("turns", "b", 0, 1, 1), ("shift", 1), ("turns", "b", 1, 1, 1)),
            (("same", ("wheels",), ("times", ("input", "a"), ("input", "b"))), ("same", ("counts",), ("input", "b"))),
        ))
        self.assertEqual(product((2, 1, 2, 1), 1, 1)[1], (("load", "a"), ("turns", "b", 0, 1, 1)))

    def test_quotient(self):
        self.assertEqual(quotient(LARGE, 2, 3), (
            (("n", 2, 0), ("d", 3, 1)),
            (("load", "n"), ("turn", 1, 0), ("load", "d"), ("shift", 1), ("bell", 1), ("shift", -1), ("bell", 1)),
            (("same", ("add", ("wheels",), ("times", ("counts",), ("input", "d"))), ("input", "n")),
             ("less", ("wheels",), ("input", "d"))),
        ))
        self.assertEqual(quotient((2, 1, 1, 1), 1, 1)[1],
                         (("load", "n"), ("turn", 1, 0), ("load", "d"), ("shift", 0), ("bell", 1)))

    def test_root(self):
        self.assertEqual(root(LARGE, 3), (
            (("n", 3, 0),),
            (("load", "n"), ("turn", 1, 0), ("one",), ("odds", 1)),
            (("same", ("add", ("wheels",), ("times", ("counts",), ("counts",))), ("input", "n")),
             ("less", ("wheels",), ("add", ("add", ("counts",), ("counts",)), ("num", 1)))),
        ))


class JustTooSmall(unittest.TestCase):
    def pair(self, manual, many, enough, small):
        self.assertIsNone(looked(enough, manual(enough, *many)), (enough, many))
        with self.assertRaises(TooSmall, msg=(small, many)) as caught:
            manual(small, *many)
        self.assertIsInstance(caught.exception, DrumError)
        self.assertIsInstance(caught.exception, ValueError)
        self.assertNotIsInstance(caught.exception, (BadMachine, BadDeed, BadBook, BadValue, Stuck))

    def test_product(self):
        self.pair(product, (3, 2), (10, 3, 5, 2), (10, 2, 5, 2))
        self.pair(product, (2, 3), (10, 3, 5, 3), (10, 2, 5, 3))
        self.pair(product, (3, 2), (10, 3, 5, 2), (10, 3, 5, 1))
        self.pair(product, (3, 2), (10, 3, 5, 2), (10, 3, 4, 2))
        self.pair(product, (2, 2), (10, 2, 4, 2), (10, 2, 3, 2))
        self.pair(product, (1, 2), (10, 3, 4, 2), (10, 3, 3, 2))
        self.pair(product, (3, 3), (10, 3, 6, 3), (10, 3, 5, 3))
        self.pair(product, (6, 6), (12, 6, 12, 6), (12, 6, 11, 6))
        self.pair(product, (1, 1), (2, 1, 2, 1), (2, 1, 1, 1))

    def test_quotient(self):
        self.pair(quotient, (3, 2), (10, 3, 5, 3), (10, 3, 5, 2))
        self.pair(quotient, (3, 2), (10, 3, 5, 3), (10, 3, 4, 3))
        self.pair(quotient, (3, 1), (10, 3, 5, 3), (10, 2, 5, 3))
        self.pair(quotient, (1, 3), (10, 3, 3, 1), (10, 2, 3, 1))
        self.pair(quotient, (2, 1), (2, 2, 3, 2), (2, 2, 2, 2))
        self.pair(quotient, (6, 6), (12, 6, 11, 6), (12, 6, 11, 5))

    def test_root(self):
        self.pair(root, (1,), (10, 1, 1, 1), (3, 1, 16, 10))
        self.pair(root, (2,), (10, 2, 2, 1), (10, 1, 2, 1))
        self.pair(root, (1,), (6, 1, 1, 1), (5, 1, 16, 10))
        self.pair(root, (1,), (4, 1, 1, 1), (3, 1, 1, 1))
        self.pair(root, (3,), (10, 3, 3, 2), (10, 3, 3, 1))
        self.pair(root, (2,), (10, 2, 2, 1), (10, 1, 16, 10))
        self.pair(root, (4,), (2, 4, 4, 2), (2, 4, 4, 1))
        self.pair(root, (6,), (12, 6, 6, 3), (12, 6, 6, 2))

    def test_figures_far_beyond_the_slides(self):
        for many in (7, 8, 17, 40):
            self.assertRaises(TooSmall, product, (10, 6, 16, 10), many, 1)
            self.assertRaises(TooSmall, product, (10, 6, 16, 10), 1, many)
            self.assertRaises(TooSmall, quotient, (10, 6, 16, 10), many, 1)
            self.assertRaises(TooSmall, quotient, (10, 6, 16, 10), 1, many)
            self.assertRaises(TooSmall, root, (10, 6, 16, 10), many)

    def test_a_bad_machine_goes_ahead(self):
        for machine in BAD_MACHINES:
            for many in (1, 2, 99):
                self.assertRaises(BadMachine, product, machine, many, 1)
                self.assertRaises(BadMachine, quotient, machine, 1, many)
                self.assertRaises(BadMachine, root, machine, many)


class Shortened(unittest.TestCase):
    """What a manual claims is let by only because its deeds see to it."""

    def test_a_deed_left_out(self):
        # A bell ahead of the last one can be spared: the next one rings after more turns.
        for book, none in ((product(LARGE, 2, 3), []), (quotient(LARGE, 3, 2), [4, 6]), (root(LARGE, 3), [])):
            inputs, deeds, claims = book
            shorter = [(inputs, deeds[:at] + deeds[at + 1:], claims) for at in range(len(deeds))]
            self.assertEqual([at for at, left in enumerate(shorter) if looked(LARGE, left) is None], none)

    def test_claims_left_out(self):
        for book in (product(LARGE, 2, 3), quotient(LARGE, 3, 2), root(LARGE, 3)):
            for claims in ((), book[2][:1], book[2][1:], book[2][::-1], book[2] * 4):
                self.assertIsNone(looked(LARGE, book[:2] + (claims,)))

    def test_more_wheels_and_counters(self):
        for book, machine in ((product((3, 2, 3, 2), 1, 2), (3, 2, 3, 2)), (quotient((3, 2, 3, 2), 2, 2), (3, 2, 3, 2)),
                              (root((3, 2, 2, 1), 2), (3, 2, 2, 1))):
            for wheels in range(machine[2], 17):
                for counters in range(machine[3], 11):
                    larger = (3, 2, wheels, counters)
                    self.assertIsNone(looked(larger, book), larger)
                    for values in all_values(larger, book[0]):
                        self.assertEqual(worked(larger, book, values), worked(machine, book, values))

    def test_a_shift_there_and_back_put_in(self):
        for book, values in ((product(LARGE, 2, 2), {"a": 47, "b": 86}), (quotient(LARGE, 2, 2), {"n": 98, "d": 7}),
                             (root(LARGE, 2), {"n": 99})):
            inputs, deeds, claims = book
            end = worked(LARGE, book, values)
            for at in range(len(deeds) + 1):
                place = sum(deed[1] for deed in deeds[:at] if deed[0] == "shift")
                for by in range(-place, highest_place(LARGE) - place + 1):
                    longer = deeds[:at] + (("shift", by), ("shift", -by)) + deeds[at:]
                    self.assertIsNone(looked(LARGE, (inputs, longer, claims)))
                    self.assertEqual(worked(LARGE, (inputs, longer, claims), values), end)

    def test_two_in_a_row(self):
        machine = (10, 2, 5, 3)
        back = (("shift", -1),)
        wipe = (("wipe", "wheels"), ("wipe", "counts"))
        books = (product(machine, 2, 2), quotient(machine, 2, 2), root(machine, 2))
        for first, second in itertools.product(books, repeat=2):
            inputs = tuple(dict.fromkeys(first[0] + second[0]))
            inputs = tuple(row for row in inputs if row[0] != "n" or row == ("n", 2, 0))
            home = back if first is books[0] else ()
            deeds = first[1] + home + wipe + second[1]
            self.assertIsNone(looked(machine, (inputs, deeds, second[2])), deeds)
            values = {"a": 38, "b": 94, "n": 97, "d": 13}
            end = worked(machine, (inputs, deeds, second[2]), {row[0]: values[row[0]] for row in inputs})
            self.assertEqual(end, worked(machine, second, {row[0]: values[row[0]] for row in second[0]}))

    def test_a_quotient_behind_a_product_without_wiping(self):
        machine = (10, 2, 5, 3)
        d = ("input", "d")
        inputs = (("a", 2, 0), ("b", 1, 0), ("d", 2, 1))
        deeds = (("load", "a"), ("turns", "b", 0, 1, 0), ("load", "d"), ("shift", 2), ("bell", 1), ("shift", -1),
                 ("bell", 1), ("shift", -1), ("bell", 1))
        claims = (("same", ("add", W, ("times", C, d)), ("times", ("input", "a"), ("input", "b"))), ("less", W, d),
                  ("less", C, ("num", 892)))
        self.assertEqual(looked(machine, (inputs, deeds, claims)), (2, "claim"))
        self.assertIsNone(looked(machine, (inputs, deeds, claims[:2])))
        for values in ({"a": 99, "b": 9, "d": 1}, {"a": 99, "b": 9, "d": 98}, {"a": 0, "b": 9, "d": 5}):
            number = values["a"] * values["b"]
            self.assertEqual(worked(machine, (inputs, deeds, claims), values),
                             (number % values["d"], number // values["d"]))
