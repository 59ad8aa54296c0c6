"""Roots, whose powers leave all remainders, and the indexes and classes by them."""

CLASSES_AT_FIRST = 2
LEAST_CLASSES = 2
MOST_CLASSES = 8
NO_CLASS = -1


def powers_of(number, prime):
    powers = [1]
    here = number % prime
    while here not in powers:
        powers.append(here)
        here = here * number % prime
    return powers


def leaves_all(number, prime):
    return len(powers_of(number, prime)) == prime - 1


def least_root(prime):
    root = 1
    while not leaves_all(root, prime):
        root += 1
    return root


def index_of(number, root, prime):
    return powers_of(root, prime).index(number % prime)


def all_roots(prime):
    return [number for number in range(1, prime) if leaves_all(number, prime)]


def can_split(classes, prime):
    return LEAST_CLASSES <= classes <= MOST_CLASSES and (prime - 1) % classes == 0


def class_by_remainder(house):
    # 0 is of no class, and has a place here so that each remainder stands at its own.
    found = [NO_CLASS] * house.prime
    for times, left in enumerate(powers_of(house.root, house.prime)):
        found[left] = times % house.classes
    return found


def members_of(wanted, house):
    found = class_by_remainder(house)
    return [x for x in range(1, house.prime) if found[x] == wanted]


def difference_counts(numbers, prime):
    counts = [0] * prime
    for one in numbers:
        for other in numbers:
            counts[(one - other) % prime] += 1
    # A number less itself is no difference.
    return counts[1:]


def is_even(numbers, prime):
    counts = difference_counts(numbers, prime)
    return min(counts) == max(counts)
