"""Sums of products of letters.

A letter is a number, a product a rising tuple of letters. A sum is a dict: how often each product
stands in it, its share, which is never 0. The product of no letters is 1, so its share is the number
in the sum. As two sums that are the same have the same products and shares, == compares them.
"""


def number_sum(number):
    """The sum that is a number."""
    return {(): number} if number != 0 else {}


def letter_sum(letter):
    """The sum that is a letter."""
    return {(letter,): 1}


def plus(one, by, other):
    """One sum and by times another."""
    total = {product: share for product, share in one.items()}
    for product, share in other.items():
        total[product] = total.get(product, 0) + by * share
    return {product: share for product, share in total.items() if share != 0}


def times(one, other):
    """One sum times another."""
    total = {}
    for left, share in one.items():
        for right, by in other.items():
            product = tuple(sorted(left + right))
            total[product] = total.get(product, 0) + share * by
    return {product: share for product, share in total.items() if share != 0}


def least_of(terms, greatest):
    """A number that the sum is nowhere below, where letters go from 0 to their greatest numbers."""
    least = 0
    for product, share in terms.items():
        # A product is never below 0, so only what is taken away may make the sum less.
        if product == () or share < 0:
            least += share * product_of(product, greatest)
    return least


def product_of(product, greatest):
    """All letters' greatest numbers, multiplied."""
    number = 1
    for letter in product:
        number *= greatest[letter]
    return number
