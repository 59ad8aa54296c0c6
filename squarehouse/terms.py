"""Terms, each to be multiplied by its unknown's square, and what they add up to."""

from squarehouse.primes import sign_of
from squarehouse.refusals import FULL, WRONG

MOST_TERMS = 4


def add_term(house, number):
    left = number % house.prime
    if left == 0:
        return [WRONG]
    if len(house.terms) == MOST_TERMS:
        return [FULL]
    house.terms.append(left)
    return [len(house.terms) - 1]


def row_leaves(terms, unknowns, prime):
    total = 0
    for term, unknown in zip(terms, unknowns):
        total += term * unknown * unknown
    return total % prime


def product_of_terms(terms, prime):
    product = 1
    for term in terms:
        product = product * term % prime
    return product


def power_of(base, exponent):
    power = 1
    for step in range(exponent):
        power *= base
    return power


def foretold_answers(terms, wanted, prime):
    many = len(terms)
    if many == 0:
        return 1 if wanted % prime == 0 else 0
    half = many // 2
    turned = product_of_terms(terms, prime)
    if half % 2 == 1:
        turned = turned * (prime - 1)
    usual = power_of(prime, many - 1)
    if many % 2 == 1:
        return usual + sign_of(wanted * turned, prime) * power_of(prime, half)
    times = prime - 1 if wanted % prime == 0 else -1
    return usual + sign_of(turned, prime) * power_of(prime, half - 1) * times


def tally_with(tally, term, prime, least):
    added = [term * unknown * unknown % prime for unknown in range(least, prime)]
    grown = [0] * prime
    for left, rows in enumerate(tally):
        for more in added:
            grown[(left + more) % prime] += rows
    return grown


def tally_from(terms, prime, least):
    # There may be far too many rows to be walked: they're counted by what they leave, term by term.
    tally = [0] * prime
    tally[0] = 1
    for term in terms:
        tally = tally_with(tally, term, prime, least)
    return tally


def all_rows_tally(terms, prime):
    return tally_from(terms, prime, 0)


def full_rows_tally(terms, prime):
    return tally_from(terms, prime, 1)


def answer_behind(terms, wanted, passed, prime):
    # Rows that begin alike stand together, so they're passed over all at once.
    row = []
    left = wanted % prime
    before = passed
    for at, term in enumerate(terms):
        tally = all_rows_tally(terms[at + 1:], prime)
        unknown = 0
        rest = left
        while before >= tally[rest]:
            before -= tally[rest]
            unknown += 1
            rest = (left - term * unknown * unknown) % prime
        row.append(unknown)
        left = rest
    return row
