"""Points round a ring: which leads to which, and which are kept."""

from squarehouse.primes import SQUARE, kind_of
from squarehouse.refusals import ALREADY, FULL

MOST_POINTS = 12


def leads_to(point, other, prime):
    return kind_of(other - point, prime) == SQUARE


def keep_point(house, point):
    if point in house.points:
        return [ALREADY]
    if len(house.points) == MOST_POINTS:
        return [FULL]
    house.points.append(point)
    return [len(house.points)]
