"""The calls of "Between two primes": multiples that are turned, points by a line, order, cards."""

from squarehouse.primes import is_odd_prime
from squarehouse.refusals import NONE_FOUND, WRONG

BESIDE_END = 200


def half_of(prime):
    return prime // 2


def in_half(number, prime):
    return 1 <= number <= half_of(prime)


def multiples_of(number, prime):
    return [number * k % prime for k in range(1, prime)]


def is_turned(left, prime):
    return left > half_of(prime)


def folded(left, prime):
    return prime - left if is_turned(left, prime) else left


def first_half_multiples(number, prime):
    return multiples_of(number, prime)[:half_of(prime)]


def turned_count(number, prime):
    return len([left for left in first_half_multiples(number, prime) if is_turned(left, prime)])


def crossed_pairs(number, prime):
    multiples = multiples_of(number, prime)
    many = 0
    for at, left in enumerate(multiples):
        many += len([later for later in multiples[at + 1:] if later < left])
    return many


def round_by(number, start, prime):
    found = [start]
    here = number * start % prime
    while here != start:
        found.append(here)
        here = number * here % prime
    return found


def fewest_exchanges(number, prime):
    # A round of so many is brought in order by one exchange fewer than it has.
    starts = [x for x in range(1, prime) if min(round_by(number, x, prime)) == x]
    return prime - 1 - len(starts)


def nextbeside(house):
    for other in range(house.beside + 1, BESIDE_END):
        if is_odd_prime(other) and other != house.prime:
            house.beside = other
            return [other]
    return [NONE_FOUND]


def fold(house, a, k):
    prime = house.prime
    if a % prime == 0 or not in_half(k, prime):
        return [WRONG]
    left = a * k % prime
    return [folded(left, prime), 1 if is_turned(left, prime) else 0]


def folds(house, a):
    if a % house.prime == 0:
        return [WRONG]
    return [turned_count(a, house.prime)]


def foldedall(house, a):
    prime = house.prime
    if a % prime == 0:
        return [WRONG]
    found = [folded(left, prime) for left in first_half_multiples(a, prime)]
    return [len(found)] + found


def is_under(x, y, house):
    return y * house.prime < x * house.beside


def under_at(x, house):
    return len([y for y in range(1, half_of(house.beside) + 1) if is_under(x, y, house)])


def over_at(y, house):
    return len([x for x in range(1, half_of(house.prime) + 1) if not is_under(x, y, house)])


def column(house, k):
    if not in_half(k, house.prime):
        return [WRONG]
    return [under_at(k, house)]


def row(house, k):
    if not in_half(k, house.beside):
        return [WRONG]
    return [over_at(k, house)]


def under(house):
    return [sum([under_at(x, house) for x in range(1, half_of(house.prime) + 1)])]


def over(house):
    return [sum([over_at(y, house) for y in range(1, half_of(house.beside) + 1)])]


def inside(house, x, y):
    if not in_half(x, house.prime) or not in_half(y, house.beside):
        return [WRONG]
    return [1 if is_under(x, y, house) else 2]


def multiple(house, a, k):
    if a % house.prime == 0 or k < 1 or k >= house.prime:
        return [WRONG]
    return [a * k % house.prime]


def where(house, a, b):
    if a % house.prime == 0 or b % house.prime == 0:
        return [WRONG]
    return [multiples_of(a, house.prime).index(b % house.prime) + 1]


def turnedpairs(house, a):
    if a % house.prime == 0:
        return [WRONG]
    return [crossed_pairs(a, house.prime)]


def long(house, a):
    if a % house.prime == 0:
        return [WRONG]
    # All rounds are as long as that of 1.
    length = len(round_by(a, 1, house.prime))
    return [length, (house.prime - 1) // length]


def fewest(house, a):
    if a % house.prime == 0:
        return [WRONG]
    return [fewest_exchanges(a, house.prime)]


def roundby(house, a, k):
    if a % house.prime == 0 or k % house.prime == 0:
        return [WRONG]
    found = round_by(a, k % house.prime, house.prime)
    return [len(found)] + found


def is_card(number, house):
    return number < house.prime * house.beside


def dealt(house, i):
    if not is_card(i, house):
        return [WRONG]
    return [i % house.prime * house.beside + i // house.prime]


def dealtto(house, i):
    if not is_card(i, house):
        return [WRONG]
    return [i % house.beside * house.prime + i // house.beside]


def pairs_among(many):
    return many * (many - 1) // 2


def dealtpairs(house):
    # Two rows and two columns have four cards, and of these just one pair comes the other way round.
    return [pairs_among(house.prime) * pairs_among(house.beside)]


BETWEEN_CALLS = {
    46: (nextbeside, 0),
    47: (fold, 2),
    48: (folds, 1),
    49: (foldedall, 1),
    50: (column, 1),
    51: (row, 1),
    52: (under, 0),
    53: (over, 0),
    54: (inside, 2),
    55: (multiple, 2),
    56: (where, 2),
    57: (turnedpairs, 1),
    58: (long, 1),
    59: (fewest, 1),
    60: (roundby, 2),
    61: (dealt, 1),
    62: (dealtto, 1),
    63: (dealtpairs, 0),
}
