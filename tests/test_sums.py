import unittest

from crankdrum.roots import root_of
from crankdrum.sums import least_of, letter_sum, number_sum, plus, times
from tests.samples import chance


class Roots(unittest.TestCase):
    def test_every_small_number(self):
        for number in range(3000):
            r = root_of(number)
            self.assertTrue(r >= 0 and r * r <= number < (r + 1) ** 2, number)

    def test_about_large_squares(self):
        rng = chance(61)
        for root in [12 ** 8, 2 ** 40, 10 ** 9 - 1] + [rng.randrange(10 ** 12) for turn in range(200)]:
            self.assertEqual(root_of(root * root), root)
            self.assertEqual(root_of(root * root + 2 * root), root)
            self.assertEqual(root_of(root * root + 2 * root + 1), root + 1)
            self.assertEqual(root_of(root * root - 1) if root else 0, max(root - 1, 0))


def come_to(terms, letters):
    total = 0
    for product, share in terms.items():
        for letter in product:
            share *= letters[letter]
        total += share
    return total


def some_terms(rng):
    total = number_sum(rng.randrange(-3, 4))
    for turn in range(rng.randrange(6)):
        term = number_sum(rng.choice((-2, -1, 1, 5)))
        for factor in range(rng.randrange(1, 4)):
            term = times(term, letter_sum(rng.randrange(12)))
        total = plus(total, 1, term)
    return total


class Sums(unittest.TestCase):
    def test_numbers_and_letters(self):
        self.assertEqual(number_sum(0), {})
        self.assertEqual(number_sum(-7), {(): -7})
        self.assertEqual(letter_sum(3), {(3,): 1})
        self.assertEqual(times(letter_sum(11), letter_sum(1)), {(1, 11): 1})
        self.assertEqual(times(letter_sum(1), letter_sum(11)), {(1, 11): 1})

    def test_what_comes_to_nought_is_not_there(self):
        x, y = letter_sum(0), letter_sum(1)
        self.assertEqual(plus(x, -1, x), {})
        self.assertEqual(plus(x, 0, y), x)
        self.assertEqual(times(plus(x, 1, y), plus(x, -1, y)), {(0, 0): 1, (1, 1): -1})
        self.assertEqual(times(x, {}), {})

    def test_they_come_to_what_their_parts_come_to(self):
        rng = chance(62)
        for turn in range(400):
            one, other, by = some_terms(rng), some_terms(rng), rng.randrange(-4, 5)
            letters = [rng.randrange(7) for at in range(12)]
            before = (dict(one), dict(other))
            left, right = come_to(one, letters), come_to(other, letters)
            self.assertEqual(come_to(plus(one, by, other), letters), left + by * right)
            self.assertEqual(come_to(times(one, other), letters), left * right)
            self.assertEqual(times(one, other), times(other, one))
            self.assertEqual(plus(one, 1, other), plus(other, 1, one))
            self.assertEqual((one, other), before)
            self.assertNotIn(0, list(plus(one, by, other).values()) + list(times(one, other).values()))

    def test_the_least(self):
        self.assertEqual(least_of({}, []), 0)
        self.assertEqual(least_of({(): 5}, []), 5)
        self.assertEqual(least_of({(): -5, (0,): 3}, [9]), -5)
        self.assertEqual(least_of({(): 100, (0,): 3, (0, 1): -2, (1, 1): -1}, [9, 4]), 100 - 72 - 16)

    def test_nothing_is_below_the_least(self):
        rng = chance(63)
        for turn in range(400):
            terms = some_terms(rng)
            greatest = [rng.randrange(5) for at in range(12)]
            for again in range(10):
                letters = [rng.randrange(most + 1) for most in greatest]
                self.assertLessEqual(least_of(terms, greatest), come_to(terms, letters))
