"""Primes, and the kinds of what numbers leave by them."""

ZERO = 0
SQUARE = 1
NOT_SQUARE = 2


def is_odd_prime(number):
    if number < 3 or number % 2 == 0:
        return False
    divisor = 3
    while divisor * divisor <= number:
        if number % divisor == 0:
            return False
        divisor += 2
    return True


def kinds_of(prime):
    kinds = [NOT_SQUARE] * prime
    kinds[0] = ZERO
    for x in range(1, prime):
        kinds[x * x % prime] = SQUARE
    return kinds


def kind_of(number, prime):
    return kinds_of(prime)[number % prime]


def remainders_of_kind(wanted, prime):
    kinds = kinds_of(prime)
    return [x for x in range(1, prime) if kinds[x] == wanted]


def sign_of(number, prime):
    kind = kind_of(number, prime)
    if kind == ZERO:
        return 0
    return 1 if kind == SQUARE else -1
