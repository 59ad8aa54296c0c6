"""The calls of "Squared again and again": tails, rounds and who meets whom."""

from squarehouse.refusals import NONE_FOUND, NOTHING_THERE, WRONG

DEEPEST_ASKED = 20


def path_from(number, prime):
    path = []
    here = number % prime
    while here not in path:
        path.append(here)
        here = here * here % prime
    return path


def tail_of(number, prime):
    path = path_from(number, prime)
    return path.index(path[-1] * path[-1] % prime)


def round_behind(number, prime):
    return path_from(number, prime)[tail_of(number, prime):]


def foot_of(number, prime):
    return round_behind(number, prime)[0]


def tails_of(prime):
    return [tail_of(x, prime) for x in range(1, prime)]


def longest_tail(prime):
    return max(tails_of(prime))


def round_lengths(prime):
    lengths = []
    for x in range(1, prime):
        # Each round is counted once, at the least number on it.
        found = round_behind(x, prime)
        if min(found) == x and tail_of(x, prime) == 0:
            lengths.append(len(found))
    return lengths


def square(house):
    if house.place == 0:
        return [NOTHING_THERE]
    house.place = house.place * house.place % house.prime
    return [house.place]


def squareback(house):
    if house.place == 0:
        return [NOTHING_THERE]
    sources = [x for x in range(1, house.prime) if x * x % house.prime == house.place]
    if len(sources) == 0:
        return [NONE_FOUND]
    house.place = sources[0]
    return [house.place]


def after(house, a, n):
    if a % house.prime == 0:
        return [WRONG]
    path = path_from(a, house.prime)
    if n < len(path):
        return [path[n]]
    # n may be far too great to be walked: whole rounds are left out.
    found = round_behind(a, house.prime)
    return [found[(n - tail_of(a, house.prime)) % len(found)]]


def tail(house, a):
    if a % house.prime == 0:
        return [WRONG]
    return [tail_of(a, house.prime)]


def foot(house, a):
    if a % house.prime == 0:
        return [WRONG]
    return [foot_of(a, house.prime)]


def round_of(house, a):
    if a % house.prime == 0:
        return [WRONG]
    found = round_behind(a, house.prime)
    return [len(found)] + found


def onround(house, a):
    if a % house.prime == 0:
        return [WRONG]
    return [1 if tail_of(a, house.prime) == 0 else 0]


def meet(house, a, b):
    prime = house.prime
    if a % prime == 0 or b % prime == 0:
        return [WRONG]
    one = a % prime
    other = b % prime
    # No tail is as long as the prime, and on rounds those who differ go on to differ.
    for many in range(prime):
        if one == other:
            return [many, one]
        one = one * one % prime
        other = other * other % prime
    return [NONE_FOUND]


def same(house, a, b):
    prime = house.prime
    if a % prime == 0 or b % prime == 0:
        return [WRONG]
    return [1 if foot_of(a, prime) in round_behind(b, prime) else 0]


def hang(house, a, d):
    prime = house.prime
    if a % prime == 0 or d > DEEPEST_ASKED:
        return [WRONG]
    if tail_of(a, prime) != 0:
        return [NONE_FOUND]
    left = a % prime
    return [len([x for x in range(1, prime) if tail_of(x, prime) == d and foot_of(x, prime) == left])]


def comesto(house, a):
    left = a % house.prime
    if left == 0:
        return [WRONG]
    return [len([x for x in range(1, house.prime) if left in path_from(x, house.prime)])]


def roundsof(house, k):
    if k >= house.prime:
        return [WRONG]
    return [round_lengths(house.prime).count(k)]


def rounds(house):
    lengths = round_lengths(house.prime)
    return [len(lengths), max(lengths)]


def depth(house):
    tails = tails_of(house.prime)
    longest = max(tails)
    return [longest, tails.index(longest) + 1]


AGAIN_CALLS = {
    32: (square, 0),
    33: (squareback, 0),
    34: (after, 2),
    35: (tail, 1),
    36: (foot, 1),
    37: (round_of, 1),
    38: (onround, 1),
    39: (meet, 2),
    40: (same, 2),
    41: (hang, 2),
    42: (comesto, 1),
    43: (roundsof, 1),
    44: (rounds, 0),
    45: (depth, 0),
}
