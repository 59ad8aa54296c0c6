"""Terms, each to be multiplied by its unknown's square, and what they add up to."""

from squarehouse.primes import sign_of
from squarehouse.refusals import FULL, WRONG

MOST_TERMS = 4


def add_term(house, number):
    left = number % house.prime
    if left == 0:
        return [WRONG]
    if len(house.terms) == MOST_TERMS:
        return [FULL]
    house.terms.append(left)
    return [len(house.terms) - 1]


def row_leaves(terms, unknowns, prime):
    total = 0
    for term, unknown in zip(terms, unknowns):
        total += term * unknown * unknown
    return total % prime


def product_of_terms(terms, prime):
    product = 1
    for term in terms:
        product = product * term % prime
    return product


def power_of(base, exponent):
    power = 1
    for step in range(exponent):
        power *= base
    return power


def foretold_answers(terms, wanted, prime):
    many = len(terms)
    if many == 0:
        return 1 if wanted % prime == 0 else 0
    half = many // 2
    turned = product_of_terms(terms, prime)
    if half % 2 == 1:
        turned = turned * (prime - 1)
    usual = power_of(prime, many - 1)
    if many % 2 == 1:
        return usual + sign_of(wanted * turned, prime) * power_of(prime, half)
    times = prime - 1 if wanted % prime == 0 else -1
    return usual + sign_of(turned, prime) * power_of(prime, half - 1) * times
