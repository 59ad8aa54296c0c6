"""The calls of the house itself: its prime, what is taken back, and what joins the stages."""

from squarehouse.again import longest_tail, tail_of
from squarehouse.between import BESIDE_END, crossed_pairs, fewest_exchanges, turned_count
from squarehouse.classes import CLASSES_AT_FIRST, index_of, least_root
from squarehouse.points import keep_point, leads_to
from squarehouse.primes import NOT_SQUARE, SQUARE, ZERO, is_odd_prime, kind_of
from squarehouse.refusals import ALREADY, NO_SUCH, NONE_FOUND, NOTHING_THERE, WRONG
from squarehouse.terms import add_term, foretold_answers, row_leaves

LEAST_PRIME = 5
GREATEST_PRIME = 97
BESIDE_AT_FIRST = 3


def is_house_prime(number):
    return LEAST_PRIME <= number <= GREATEST_PRIME and is_odd_prime(number)


def classes_anew(house):
    house.classes = CLASSES_AT_FIRST
    house.root = least_root(house.prime)


def begin(house, p):
    if not is_house_prime(p):
        return [WRONG]
    house.prime = p
    house.place = 1
    house.beside = BESIDE_AT_FIRST
    house.terms = []
    house.points = []
    house.earlier = []
    classes_anew(house)
    return [0]


def prime(house, p):
    if not is_house_prime(p):
        return [WRONG]
    if p == house.prime:
        return [ALREADY]
    if house.beside == p:
        house.beside = house.prime
    house.prime = p
    house.place = house.place % p
    house.terms = [term % p for term in house.terms if term % p != 0]
    house.points = [point for point in house.points if point < p]
    classes_anew(house)
    return [len(house.terms), len(house.points)]


def undo(house):
    if len(house.earlier) == 0:
        return [NOTHING_THERE]
    house.restore(house.earlier.pop())
    return [len(house.earlier)]


def past(house):
    return [len(house.earlier)]


def sums(house):
    return [
        house.prime,
        house.place,
        house.beside,
        len(house.terms),
        len(house.points),
        house.classes,
        house.root,
    ]


def besides(house, q):
    if q >= BESIDE_END or not is_odd_prime(q) or q == house.prime:
        return [WRONG]
    old = house.beside
    house.beside = q
    return [old]


def stayat(house, k):
    if k >= len(house.points):
        return [NO_SUCH]
    house.place = house.points[k]
    return [house.place]


def bring(house):
    return keep_point(house, house.place)


def termhere(house):
    return add_term(house, house.place)


def wander(house):
    for further in range(1, house.prime):
        point = (house.place + further) % house.prime
        if leads_to(house.place, point, house.prime) and point not in house.points:
            house.place = point
            return [point]
    return [NONE_FOUND]


def from_here(house):
    led = [point for point in house.points if leads_to(house.place, point, house.prime)]
    leading = [point for point in house.points if leads_to(point, house.place, house.prime)]
    return [len(led), len(leading)]


def value(house):
    if len(house.points) < len(house.terms):
        return [NONE_FOUND]
    return [row_leaves(house.terms, house.points[:len(house.terms)], house.prime)]


def ways(house, a):
    by = house.prime
    if a % by == 0:
        return [WRONG]
    said = [
        kind_of(a, by) == SQUARE,
        turned_count(a, by) % 2 == 0,
        crossed_pairs(a, by) % 2 == 0,
        fewest_exchanges(a, by) % 2 == 0,
        index_of(a, house.root, by) % 2 == 0,
        tail_of(a, by) < longest_tail(by),
    ]
    return [said.count(True)]


def foretold(house, c):
    return [foretold_answers(house.terms, c, house.prime)]


def standing(house):
    if house.place == 0:
        return [NOTHING_THERE]
    index = index_of(house.place, house.root, house.prime)
    return [
        kind_of(house.place, house.prime),
        tail_of(house.place, house.prime),
        index,
        index % house.classes,
    ]


def keptkinds(house):
    kinds = [kind_of(point, house.prime) for point in house.points]
    return [len(kinds), kinds.count(ZERO), kinds.count(SQUARE), kinds.count(NOT_SQUARE)]


OWN_CALLS = {
    0: (begin, 1),
    1: (prime, 1),
    2: (undo, 0),
    3: (past, 0),
    4: (sums, 0),
    5: (besides, 1),
    6: (stayat, 1),
    7: (bring, 0),
    8: (termhere, 0),
    9: (wander, 0),
    10: (from_here, 0),
    11: (value, 0),
    12: (ways, 1),
    13: (foretold, 1),
    14: (standing, 0),
    15: (keptkinds, 0),
}
