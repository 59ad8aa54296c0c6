"""The calls of "Squares left": how both kinds of remainders lie."""

from squarehouse.primes import NOT_SQUARE, SQUARE, kind_of, kinds_of, remainders_of_kind
from squarehouse.refusals import NONE_FOUND, WRONG


def is_kind(number):
    return number == SQUARE or number == NOT_SQUARE


def go(house, a):
    house.place = a % house.prime
    return [house.place]


def on(house, u):
    if not is_kind(u):
        return [WRONG]
    those = remainders_of_kind(u, house.prime)
    greater = [x for x in those if x > house.place]
    house.place = greater[0] if len(greater) > 0 else those[0]
    return [house.place]


def before(house, u):
    if not is_kind(u):
        return [WRONG]
    those = remainders_of_kind(u, house.prime)
    less = [x for x in those if x < house.place]
    house.place = less[-1] if len(less) > 0 else those[-1]
    return [house.place]


def stand(house):
    return [house.place, kind_of(house.place, house.prime)]


def kind(house, a):
    return [kind_of(a, house.prime)]


def manyof(house, u, n):
    if not is_kind(u) or n >= house.prime:
        return [WRONG]
    return [len([x for x in remainders_of_kind(u, house.prime) if x <= n])]


def nth(house, u, k):
    if not is_kind(u):
        return [WRONG]
    those = remainders_of_kind(u, house.prime)
    if k >= len(those):
        return [NONE_FOUND]
    return [those[k]]


def place(house, a):
    left = a % house.prime
    if left == 0:
        return [WRONG]
    alike = remainders_of_kind(kind_of(left, house.prime), house.prime)
    return [alike.index(left)]


def sum_of_kind(house, u):
    if not is_kind(u):
        return [WRONG]
    return [sum(remainders_of_kind(u, house.prime))]


def part(house, k):
    if k < 1 or k > house.prime:
        return [WRONG]
    end = house.prime // k
    squares = [x for x in remainders_of_kind(SQUARE, house.prime) if x <= end]
    others = [x for x in remainders_of_kind(NOT_SQUARE, house.prime) if x <= end]
    return [0, len(squares) - len(others)]


def pairs(house, u, v):
    if not is_kind(u) or not is_kind(v):
        return [WRONG]
    kinds = kinds_of(house.prime)
    return [len([x for x in range(1, house.prime - 1) if kinds[x] == u and kinds[x + 1] == v])]


def threes(house, u, v, w):
    if not is_kind(u) or not is_kind(v) or not is_kind(w):
        return [WRONG]
    kinds = kinds_of(house.prime)
    wanted = [u, v, w]
    return [len([x for x in range(1, house.prime - 2) if kinds[x:x + 3] == wanted])]


def runs_of_kind(u, prime):
    # Each run is (where it begins, how many it has); kinds[0] is neither kind, so none begins ahead of 1.
    kinds = kinds_of(prime)
    found = []
    for x in range(1, prime):
        if kinds[x] == u and kinds[x - 1] == u:
            found[-1] = (found[-1][0], found[-1][1] + 1)
        elif kinds[x] == u:
            found.append((x, 1))
    return found


def run(house, u):
    if not is_kind(u):
        return [WRONG]
    found = runs_of_kind(u, house.prime)
    lengths = [one[1] for one in found]
    longest = max(lengths)
    return [longest, found[lengths.index(longest)][0]]


def runs(house, u):
    if not is_kind(u):
        return [WRONG]
    return [len(runs_of_kind(u, house.prime))]


def least(house):
    return [remainders_of_kind(NOT_SQUARE, house.prime)[0]]


def product(house, u):
    if not is_kind(u):
        return [WRONG]
    left = 1
    for x in remainders_of_kind(u, house.prime):
        left = left * x % house.prime
    return [left]


LEFT_CALLS = {
    16: (go, 1),
    17: (on, 1),
    18: (before, 1),
    19: (stand, 0),
    20: (kind, 1),
    21: (manyof, 2),
    22: (nth, 2),
    23: (place, 1),
    24: (sum_of_kind, 1),
    25: (part, 1),
    26: (pairs, 2),
    27: (threes, 3),
    28: (run, 1),
    29: (runs, 1),
    30: (least, 0),
    31: (product, 1),
}
