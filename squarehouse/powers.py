"""The calls of "Classes by powers": roots, indexes, and how classes lie behind one another."""

from squarehouse.classes import all_roots, can_split, class_by_remainder, difference_counts
from squarehouse.classes import index_of, is_even, least_root, leaves_all, members_of, powers_of
from squarehouse.refusals import NO_SUCH, NONE_FOUND, WRONG


def is_class(number, house):
    return number < house.classes


def split(house, e):
    if not can_split(e, house.prime):
        return [NONE_FOUND]
    house.classes = e
    return [(house.prime - 1) // e]


def otherroot(house, g):
    if g % house.prime == 0 or not leaves_all(g, house.prime):
        return [WRONG]
    old = house.root
    house.root = g % house.prime
    return [index_of(g, old, house.prime)]


def leastroot(house):
    return [least_root(house.prime)]


def roots(house):
    found = all_roots(house.prime)
    return [len(found)] + found


def index(house, x):
    if x % house.prime == 0:
        return [WRONG]
    return [index_of(x, house.root, house.prime)]


def class_of(house, x):
    if x % house.prime == 0:
        return [WRONG]
    return [class_by_remainder(house)[x % house.prime]]


def power(house, n):
    # n may be far too great to be walked: by p - 1 multiplications one comes to 1 again.
    return [powers_of(house.root, house.prime)[n % (house.prime - 1)]]


def members(house, i):
    if not is_class(i, house):
        return [NO_SUCH]
    found = members_of(i, house)
    return [len(found)] + found


def firstof(house, i):
    if not is_class(i, house):
        return [NO_SUCH]
    return [members_of(i, house)[0]]


def row_of_class(i, house):
    found = class_by_remainder(house)
    row = [0] * house.classes
    for x in range(1, house.prime - 1):
        if found[x] == i:
            row[found[x + 1]] += 1
    return row


def behind(house, i, j):
    if not is_class(i, house) or not is_class(j, house):
        return [NO_SUCH]
    return [row_of_class(i, house)[j]]


def rowof(house, i):
    if not is_class(i, house):
        return [NO_SUCH]
    return [house.classes] + row_of_class(i, house)


def table(house):
    numbers = []
    for i in range(house.classes):
        numbers.extend(row_of_class(i, house))
    return [len(numbers)] + numbers


def differs(house, i, d):
    if not is_class(i, house):
        return [NO_SUCH]
    if d % house.prime == 0:
        return [WRONG]
    return [difference_counts(members_of(i, house), house.prime)[d % house.prime - 1]]


def even(house, i):
    if not is_class(i, house):
        return [NO_SUCH]
    return [1 if is_even(members_of(i, house), house.prime) else 0]


def evenzero(house, i):
    if not is_class(i, house):
        return [NO_SUCH]
    return [1 if is_even([0] + members_of(i, house), house.prime) else 0]


def sumof(house, i):
    if not is_class(i, house):
        return [NO_SUCH]
    return [sum(members_of(i, house))]


def class_times(house, i, number):
    # All of one class, multiplied, are of one class again: its first says it.
    return class_by_remainder(house)[members_of(i, house)[0] * number % house.prime]


def timesclass(house, i, a):
    if not is_class(i, house):
        return [NO_SUCH]
    if a % house.prime == 0:
        return [WRONG]
    return [class_times(house, i, a)]


def opposite(house, i):
    if not is_class(i, house):
        return [NO_SUCH]
    return [class_times(house, i, house.prime - 1)]


POWERS_CALLS = {
    97: (split, 1),
    98: (otherroot, 1),
    99: (leastroot, 0),
    100: (roots, 0),
    101: (index, 1),
    102: (class_of, 1),
    103: (power, 1),
    104: (members, 1),
    105: (firstof, 1),
    106: (behind, 2),
    107: (rowof, 1),
    108: (table, 0),
    109: (differs, 2),
    110: (even, 1),
    111: (evenzero, 1),
    112: (sumof, 1),
    113: (timesclass, 2),
    114: (opposite, 1),
}
