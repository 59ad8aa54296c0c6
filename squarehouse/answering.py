"""The calls of "How many answers": terms, and which rows of unknowns leave what."""

from squarehouse.primes import NOT_SQUARE, SQUARE, kind_of, remainders_of_kind
from squarehouse.refusals import FULL, NO_SUCH, NONE_FOUND, WRONG
from squarehouse.terms import MOST_TERMS, add_term, all_rows_tally, answer_behind, full_rows_tally
from squarehouse.terms import product_of_terms, row_leaves


def is_term(number, house):
    return number < len(house.terms)


def house_tally(house):
    return all_rows_tally(house.terms, house.prime)


def term(house, a):
    return add_term(house, a)


def out(house, i):
    if not is_term(i, house):
        return [NO_SUCH]
    house.terms.pop(i)
    return [len(house.terms)]


def times(house, i, k):
    if not is_term(i, house):
        return [NO_SUCH]
    if k % house.prime == 0:
        return [WRONG]
    house.terms[i] = house.terms[i] * k * k % house.prime
    return [house.terms[i]]


def pair(house, i, j):
    if not is_term(i, house) or not is_term(j, house):
        return [NO_SUCH]
    if i == j:
        return [WRONG]
    house.terms[j] = house.terms[i] * house.terms[j] % house.prime
    house.terms[i] = 1
    return [house.terms[j]]


def many(house, c):
    return [house_tally(house)[c % house.prime]]


def full(house, c):
    return [full_rows_tally(house.terms, house.prime)[c % house.prime]]


def first(house, c):
    if house_tally(house)[c % house.prime] == 0:
        return [NONE_FOUND]
    row = answer_behind(house.terms, c, 0, house.prime)
    return [len(row)] + row


def zero(house):
    # The row in which all are 0 is always the first answer to 0: the one behind it is asked for.
    if house_tally(house)[0] < 2:
        return [NONE_FOUND]
    row = answer_behind(house.terms, 0, 1, house.prime)
    return [len(row)] + row


def never(house):
    found = [left for left, rows in enumerate(house_tally(house)) if rows == 0]
    return [len(found)] + found


def three(house):
    tally = house_tally(house)
    least_none = remainders_of_kind(NOT_SQUARE, house.prime)[0]
    return [0, tally[0], tally[1], tally[least_none]]


def ofkind(house, u):
    if u != SQUARE and u != NOT_SQUARE:
        return [WRONG]
    tally = house_tally(house)
    return [sum([tally[left] for left in remainders_of_kind(u, house.prime)])]


def most(house):
    tally = house_tally(house)
    greatest = max(tally)
    return [greatest, tally.index(greatest)]


def fewestanswers(house):
    tally = house_tally(house)
    least = min(tally)
    return [least, tally.index(least)]


def worth(house, x, y, z, w):
    return [row_leaves(house.terms, [x, y, z, w], house.prime)]


def productof(house):
    product = product_of_terms(house.terms, house.prime)
    return [product, kind_of(product, house.prime)]


def with_more(house, a, c):
    if a % house.prime == 0:
        return [WRONG]
    if len(house.terms) == MOST_TERMS:
        return [FULL]
    return [all_rows_tally(house.terms + [a % house.prime], house.prime)[c % house.prime]]


ANSWERING_CALLS = {
    64: (term, 1),
    65: (out, 1),
    66: (times, 2),
    67: (pair, 2),
    68: (many, 1),
    69: (full, 1),
    70: (first, 1),
    71: (zero, 0),
    72: (never, 0),
    73: (three, 0),
    74: (ofkind, 1),
    75: (most, 0),
    76: (fewestanswers, 0),
    77: (worth, 4),
    78: (productof, 0),
    79: (with_more, 2),
}
