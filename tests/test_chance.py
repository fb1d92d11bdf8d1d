"""Handbooks by chance: what looked tells of them, and that what it lets by is so."""

import unittest

from crankdrum.looking import looked
from crankdrum.manuals import product, quotient, root
from crankdrum.working import worked
from tests.reference import all_values, claim_holds, judged
from tests.samples import chance
from tests.somebooks import SMALL_MACHINES, grown_deeds, some_book, some_claim, some_deed, some_inputs

WORDS = {None, "shift", "over", "zero", "odds", "counts", "claim"}


class AsPointNineTells(unittest.TestCase):
    def test_any_handbook(self):
        rng = chance(71)
        seen = dict.fromkeys(WORDS, 0)
        for turn in range(3000):
            machine = SMALL_MACHINES[turn % len(SMALL_MACHINES)]
            book = some_book(rng, machine, 10 ** 6, 9)
            answer = looked(machine, book)
            self.assertEqual(answer, judged(machine, book), (machine, book))
            self.assertEqual(looked(machine, book), answer)
            seen[answer if answer is None else answer[1]] += 1
        self.assertGreater(min(seen.values()), 40, seen)

    def test_long_handbooks(self):
        rng = chance(72)
        machines = SMALL_MACHINES + ((12, 6, 16, 10), (10, 3, 12, 8), (7, 2, 9, 6))
        kinds = dict.fromkeys(("load", "one", "shift", "turn", "turns", "wipe", "bell", "odds"), 0)
        for turn in range(300):
            machine = machines[turn % len(machines)]
            inputs = some_inputs(rng, machine, 10 ** 30)
            deeds = grown_deeds(rng, machine, inputs, 40)
            for last in [some_deed(rng, inputs) for at in range(12)]:
                longer = (inputs, deeds[:39] + (last,), (some_claim(rng, inputs),))
                self.assertEqual(looked(machine, longer), judged(machine, longer), (machine, longer))
            for deed in deeds:
                kinds[deed[0]] += 1
        self.assertGreater(min(kinds.values()), 100, kinds)


class WhatIsLetByIsSo(unittest.TestCase):
    def test_never_stuck_and_each_claim_is_so(self):
        rng = chance(73)
        tally = {}
        for turn in range(700):
            machine = SMALL_MACHINES[turn % len(SMALL_MACHINES)]
            inputs = some_inputs(rng, machine, 60)
            deeds = grown_deeds(rng, machine, inputs, rng.randrange(40))
            ends = [(values, worked(machine, (inputs, deeds, ()), values)) for values in all_values(machine, inputs)]
            for claim in [some_claim(rng, inputs) for at in range(8)]:
                let_by = looked(machine, (inputs, deeds, (claim,))) is None
                so = all(claim_holds(claim, values, end) for values, end in ends)
                self.assertFalse(let_by and not so, (machine, inputs, deeds, claim))
                tally[claim[0], let_by, so] = tally.get((claim[0], let_by, so), 0) + 1
        for word in ("same", "less"):
            self.assertGreater(tally[word, True, True], 300, tally)
            self.assertGreater(tally[word, False, False], 200, tally)

    def test_manuals_with_deeds_put_in(self):
        rng = chance(74)
        tally = [0, 0]
        for machine, manual, *many in (((3, 2, 5, 3), product, 2, 1), ((2, 3, 6, 4), product, 2, 2),
                                       ((3, 2, 5, 3), quotient, 2, 2), ((4, 2, 4, 3), quotient, 2, 1),
                                       ((10, 2, 4, 2), root, 2), ((2, 4, 6, 3), root, 4)):
            inputs, deeds, claims = manual(machine, *many)
            for turn in range(150):
                at = rng.randrange(len(deeds) + 1)
                longer = deeds[:at] + (some_deed(rng, inputs),) + deeds[at:]
                for claim in claims:
                    let_by = looked(machine, (inputs, longer, (claim,))) is None
                    tally[let_by] += 1
                    if let_by:
                        for values in all_values(machine, inputs):
                            end = worked(machine, (inputs, longer, ()), values)
                            self.assertTrue(claim_holds(claim, values, end), (machine, longer, claim, values))
        self.assertGreater(min(tally), 150, tally)

    def test_two_handbooks_in_a_row(self):
        rng = chance(75)
        let_by = 0
        for turn in range(400):
            machine = SMALL_MACHINES[turn % len(SMALL_MACHINES)]
            inputs = some_inputs(rng, machine, 40)
            deeds = grown_deeds(rng, machine, inputs, 15) + grown_deeds(rng, machine, inputs, 15)
            claims = tuple(some_claim(rng, inputs) for at in range(2))
            answer = looked(machine, (inputs, deeds, claims))
            self.assertEqual(answer, judged(machine, (inputs, deeds, claims)))
            if answer is None or answer[1] == "claim":
                let_by += 1
                for values in all_values(machine, inputs):
                    end = worked(machine, (inputs, deeds, claims), values)
                    for claim in claims[:answer[0] if answer else 2]:
                        self.assertTrue(claim_holds(claim, values, end), (machine, inputs, deeds, claim))
        self.assertGreater(let_by, 100)
