"""Points round a ring: which leads to which, and which are kept."""

from squarehouse.primes import SQUARE, kind_of, kinds_of
from squarehouse.refusals import ALREADY, FULL

MOST_POINTS = 12


def leads_to(point, other, prime):
    return kind_of(other - point, prime) == SQUARE


def points_led_to(point, prime):
    kinds = kinds_of(prime)
    return [other for other in range(prime) if kinds[(other - point) % prime] == SQUARE]


def points_leading_to(point, prime):
    kinds = kinds_of(prime)
    return [other for other in range(prime) if kinds[(point - other) % prime] == SQUARE]


def leads_both_ways(prime):
    return prime % 4 == 1


def keep_point(house, point):
    if point in house.points:
        return [ALREADY]
    if len(house.points) == MOST_POINTS:
        return [FULL]
    house.points.append(point)
    return [len(house.points)]


def leading_to_all(kept, prime):
    found = [point for point in range(prime) if point not in kept]
    for point in kept:
        leading = points_leading_to(point, prime)
        found = [other for other in found if other in leading]
    return found


def one_step_on(reached, prime):
    found = list(reached)
    for point in reached:
        found.extend([other for other in points_led_to(point, prime) if other not in found])
    return found


def groups_with_one_more(groups, prime):
    # Each group comes with the greater points by which it can grow: so no group is met twice,
    # and rising groups in their order grow into rising groups in their order.
    found = []
    for group, free in groups:
        for point in free:
            near = points_led_to(point, prime)
            found.append((group + [point], [other for other in free if other > point and other in near]))
    return found


def first_greatest_group(start, prime):
    groups = [(start, [point for point in leading_to_all(start, prime) if point > start[-1]])]
    greatest = start
    while len(groups) > 0:
        greatest = groups[0][0]
        groups = groups_with_one_more(groups, prime)
    return greatest
