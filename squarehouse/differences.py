"""The calls of "Differences as often": points that are kept, and who leads to whom."""

from squarehouse.points import MOST_POINTS, first_greatest_group, keep_point, leading_to_all
from squarehouse.points import leads_both_ways, leads_to, one_step_on, points_leading_to, points_led_to
from squarehouse.primes import SQUARE, remainders_of_kind
from squarehouse.refusals import FULL, NO_SUCH, NONE_FOUND, WRONG

NOT_REFUSED = 0


def is_point(number, house):
    return number < house.prime


def with_count(found):
    return [len(found)] + found


def put(house, x):
    if not is_point(x, house):
        return [NO_SUCH]
    return keep_point(house, x)


def take(house, x):
    if x not in house.points:
        return [NO_SUCH]
    house.points.remove(x)
    return [len(house.points)]


def kept(house):
    return with_count(house.points)


def move(house, t):
    house.points = [(point + t) % house.prime for point in house.points]
    return with_count(house.points)


def timesall(house, k):
    if k % house.prime == 0:
        return [WRONG]
    house.points = [point * k % house.prime for point in house.points]
    return with_count(house.points)


def grow(house):
    if len(house.points) == MOST_POINTS:
        return [FULL]
    leading = leading_to_all(house.points, house.prime)
    if len(leading) == 0:
        return [NONE_FOUND]
    house.points.append(leading[0])
    return [leading[0]]


def refusal_of_two(house, x, y):
    if not is_point(x, house) or not is_point(y, house):
        return NO_SUCH
    return WRONG if x == y else NOT_REFUSED


def leads(house, x, y):
    refusal = refusal_of_two(house, x, y)
    if refusal != NOT_REFUSED:
        return [refusal]
    return [1 if leads_to(x, y, house.prime) else 0]


def of(house, x):
    if not is_point(x, house):
        return [NO_SUCH]
    return with_count(points_led_to(x, house.prime))


def common(house, x, y):
    refusal = refusal_of_two(house, x, y)
    if refusal != NOT_REFUSED:
        return [refusal]
    others = points_led_to(y, house.prime)
    return with_count([point for point in points_led_to(x, house.prime) if point in others])


def into(house, x, y):
    refusal = refusal_of_two(house, x, y)
    if refusal != NOT_REFUSED:
        return [refusal]
    others = points_leading_to(y, house.prime)
    return with_count([point for point in points_leading_to(x, house.prime) if point in others])


def threesround(house, x):
    if not is_point(x, house):
        return [NO_SUCH]
    back = points_leading_to(x, house.prime)
    ways = 0
    for middle in points_led_to(x, house.prime):
        ways += len([point for point in points_led_to(middle, house.prime) if point in back])
    # Where one leads both ways each round was met twice, once in either direction.
    return [ways // 2 if leads_both_ways(house.prime) else ways]


def differ(house, d):
    if d % house.prime == 0:
        return [WRONG]
    squares = remainders_of_kind(SQUARE, house.prime)
    return [len([x for x in squares if (x - d) % house.prime in squares])]


def who(house):
    return with_count(leading_to_all(house.points, house.prime))


def ordered_leading_pairs(house):
    pairs = 0
    for point in house.points:
        led = points_led_to(point, house.prime)
        pairs += len([other for other in house.points if other in led])
    return pairs


def inner(house):
    pairs = ordered_leading_pairs(house)
    return [pairs // 2 if leads_both_ways(house.prime) else pairs]


def group(house):
    points = len(house.points)
    return [1 if ordered_leading_pairs(house) == points * (points - 1) else 0]


def greatest(house):
    if not leads_both_ways(house.prime):
        return [NONE_FOUND]
    return with_count(first_greatest_group([0, 1], house.prime))


def steps(house, x, y):
    if not is_point(x, house) or not is_point(y, house):
        return [NO_SUCH]
    # 1 is a square's, so one comes all round the ring, and to y.
    reached = [x]
    taken = 0
    while y not in reached:
        reached = one_step_on(reached, house.prime)
        taken += 1
    return [taken]


DIFFERENCES_CALLS = {
    80: (put, 1),
    81: (take, 1),
    82: (kept, 0),
    83: (move, 1),
    84: (timesall, 1),
    85: (grow, 0),
    86: (leads, 2),
    87: (of, 1),
    88: (common, 2),
    89: (into, 2),
    90: (threesround, 1),
    91: (differ, 1),
    92: (who, 0),
    93: (inner, 0),
    94: (group, 0),
    95: (greatest, 0),
    96: (steps, 2),
}
