"""Roots, whose powers leave all remainders, and the indexes and classes by them."""

CLASSES_AT_FIRST = 2


def powers_of(number, prime):
    powers = [1]
    here = number % prime
    while here not in powers:
        powers.append(here)
        here = here * number % prime
    return powers


def leaves_all(number, prime):
    return len(powers_of(number, prime)) == prime - 1


def least_root(prime):
    root = 1
    while not leaves_all(root, prime):
        root += 1
    return root


def index_of(number, root, prime):
    return powers_of(root, prime).index(number % prime)
