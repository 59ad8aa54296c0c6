"""The model's calls from long to opposite, built otherwise than the program where that can be:
cards laid out and counted, rows in two halves that are put together, groups gone through
whole, indexes by powers, classes multiplied member by member.
"""

import itertools
from collections import Counter
from functools import lru_cache

from tests.refusing import need


@lru_cache(maxsize=None)
def taken_cards(p, q):
    rows = [[r * q + c for c in range(q)] for r in range(p)]
    return [row[c] for c in range(q) for row in rows]


@lru_cache(maxsize=None)
def crossed_cards(p, q):
    # A tree of sums over the cards' numbers: how many greater ones were taken before each.
    sums = [0] * (p * q + 1)
    crossed = 0
    for before, card in enumerate(taken_cards(p, q)):
        at, fewer = card + 1, 0
        while at:
            fewer += sums[at]
            at -= at & -at
        crossed += before - fewer
        at = card + 1
        while at <= p * q:
            sums[at] += 1
            at += at & -at
    return crossed


@lru_cache(maxsize=64)
def rows_by_left(terms, p):
    found = {}
    for row in itertools.product(range(p), repeat=len(terms)):
        left = sum(t * x * x for t, x in zip(terms, row)) % p
        found.setdefault(left, []).append(row)
    return found


@lru_cache(maxsize=64)
def full_rows(terms, p):
    return Counter({left: sum(all(row) for row in rows) for left, rows in rows_by_left(terms, p).items()})


def halves(terms, p):
    return rows_by_left(terms[:2], p), rows_by_left(terms[2:], p)


@lru_cache(maxsize=64)
def counted(terms, p):
    one, other = halves(terms, p)
    found = [0] * p
    for a, rows in one.items():
        for b, more in other.items():
            found[(a + b) % p] += len(rows) * len(more)
    return found


@lru_cache(maxsize=None)
def leads(x, y, p):
    return any((x + n * n - y) % p == 0 for n in range(1, p))


def maximal_groups(group, free, passed, p):
    if not free and not passed:
        yield group
    for point in sorted(free):
        near = {other for other in range(p) if leads(point, other, p)}
        yield from maximal_groups(group | {point}, free & near, passed & near, p)
        free = free - {point}
        passed = passed | {point}


@lru_cache(maxsize=None)
def greatest_group(p):
    near = {x for x in range(p) if leads(0, x, p) and leads(1, x, p)}
    found = [sorted(group) for group in maximal_groups(frozenset({0, 1}), near, set(), p)]
    return min(found, key=lambda group: (-len(group), group))


class Cards:
    def orbit(self, a, k):
        many = next(n for n in range(1, self.p) if pow(a, n, self.p) == 1)
        return [k * pow(a, n, self.p) % self.p for n in range(many)]

    def do_long(self, a):
        a = self.left(a)
        rounds = {frozenset(self.orbit(a, k)) for k in range(1, self.p)}
        return max(len(one) for one in rounds), len(rounds)

    def do_fewest(self, a):
        return self.exchanges(self.left(a))

    def do_roundby(self, a, k):
        found = self.orbit(self.left(a), self.left(k))
        return [len(found)] + found

    def do_dealt(self, i):
        need(i < self.p * self.q, -22)
        return taken_cards(self.p, self.q)[i]

    def do_dealtto(self, i):
        need(i < self.p * self.q, -22)
        return taken_cards(self.p, self.q).index(i)

    def do_dealtpairs(self):
        return crossed_cards(self.p, self.q)


class Terms:
    @property
    def terms(self):
        return self.state["terms"]

    def at_term(self, *numbers):
        need(all(i < len(self.terms) for i in numbers), -2)

    def set_term(self, i, number):
        self.state["terms"] = self.terms[:i] + (number % self.p,) + self.terms[i + 1:]

    def do_term(self, a):
        a = self.left(a)
        need(len(self.terms) < 4, -28)
        self.state["terms"] += (a,)
        return self.terms.index(a, len(self.terms) - 1)

    def do_out(self, i):
        self.at_term(i)
        self.state["terms"] = tuple(t for at, t in enumerate(self.terms) if at != i)
        return len(self.terms)

    def do_times(self, i, k):
        self.at_term(i)
        self.set_term(i, self.terms[i] * self.left(k) ** 2)
        return self.terms[i]

    def do_pair(self, i, j):
        self.at_term(i, j)
        need(i != j, -22)
        self.set_term(j, self.terms[i] * self.terms[j])
        self.set_term(i, 1)
        return self.terms[j]

    def do_many(self, c):
        return counted(self.terms, self.p)[c % self.p]

    def do_full(self, c):
        one, other = full_rows(self.terms[:2], self.p), full_rows(self.terms[2:], self.p)
        return sum(rows * other[(c - left) % self.p] for left, rows in one.items())

    def row(self, c, needed):
        # The former halves as they stand in order; the latter half is the first that fits.
        other = rows_by_left(self.terms[2:], self.p)
        for half in itertools.product(range(self.p), repeat=len(self.terms[:2])):
            left = sum(t * x * x for t, x in zip(self.terms, half))
            for rest in other.get((c - left) % self.p, []):
                if needed(half + rest):
                    return [len(self.terms), *half, *rest]
        need(False, -33)

    def do_first(self, c):
        return self.row(c, lambda row: True)

    def do_zero(self):
        return self.row(0, any)

    def do_never(self):
        found = [c for c in range(self.p) if self.do_many(c) == 0]
        return [len(found)] + found

    def do_three(self):
        return 0, self.do_many(0), self.do_many(1), self.do_many(self.do_least())

    def do_ofkind(self, u):
        return sum(self.do_many(c) for c in self.of(u))

    def do_most(self):
        most = max(counted(self.terms, self.p))
        return most, next(c for c in range(self.p) if self.do_many(c) == most)

    def do_fewestanswers(self):
        least = min(counted(self.terms, self.p))
        return least, next(c for c in range(self.p) if self.do_many(c) == least)

    def do_worth(self, *unknowns):
        return sum(t * (x % self.p) ** 2 for t, x in zip(self.terms, unknowns)) % self.p

    def do_productof(self):
        found = 1
        for t in self.terms:
            found *= t
        return found % self.p, self.kind(found)

    def do_with_more(self, a, c):
        a = self.left(a)
        need(len(self.terms) < 4, -28)
        return counted(self.terms + (a,), self.p)[c % self.p]


class Points:
    @property
    def kept(self):
        return self.state["kept"]

    @kept.setter
    def kept(self, points):
        self.state["kept"] = tuple(points)

    def leads(self, x, y):
        return leads(x, y, self.p)

    def at_point(self, *points):
        need(all(x < self.p for x in points), -2)

    def two(self, x, y):
        self.at_point(x, y)
        need(x != y, -22)

    def do_put(self, x):
        self.at_point(x)
        need(x not in self.kept, -17)
        need(len(self.kept) < 12, -28)
        self.kept = self.kept + (x,)
        return len(self.kept)

    def do_take(self, x):
        need(x in self.kept, -2)
        self.kept = [y for y in self.kept if y != x]
        return len(self.kept)

    def do_kept(self):
        return [len(self.kept), *self.kept]

    def do_move(self, t):
        self.kept = [(x + t) % self.p for x in self.kept]
        return self.do_kept()

    def do_timesall(self, k):
        k = self.left(k)
        self.kept = [x * k % self.p for x in self.kept]
        return self.do_kept()

    def do_grow(self):
        need(len(self.kept) < 12, -28)
        found = self.do_who()[1:]
        need(found, -33)
        self.kept = self.kept + (found[0],)
        return found[0]

    def do_leads(self, x, y):
        self.two(x, y)
        return int(self.leads(x, y))

    def those(self, wanted):
        found = [z for z in range(self.p) if wanted(z)]
        return [len(found)] + found

    def do_of(self, x):
        self.at_point(x)
        return self.those(lambda z: self.leads(x, z))

    def do_common(self, x, y):
        self.two(x, y)
        return self.those(lambda z: self.leads(x, z) and self.leads(y, z))

    def do_into(self, x, y):
        self.two(x, y)
        return self.those(lambda z: self.leads(z, x) and self.leads(z, y))

    def do_threesround(self, x):
        self.at_point(x)
        led = [y for y in range(self.p) if self.leads(x, y)]
        ways = {(y, z) for y in led for z in range(self.p) if self.leads(y, z) and self.leads(z, x)}
        if self.leads(1, 0):
            ways = {frozenset(way) for way in ways}
        return len(ways)

    def do_differ(self, d):
        d = self.left(d)
        return sum((a - b - d) % self.p == 0 for a in self.of(1) for b in self.of(1))

    def do_who(self):
        return self.those(lambda z: z not in self.kept and all(self.leads(z, x) for x in self.kept))

    def do_inner(self):
        return sum(self.leads(x, y) or self.leads(y, x) for x, y in itertools.combinations(self.kept, 2))

    def do_group(self):
        return int(all(self.leads(x, y) for x, y in itertools.permutations(self.kept, 2)))

    def do_greatest(self):
        need(self.p % 4 != 3, -33)
        found = greatest_group(self.p)
        return [len(found)] + found

    def do_steps(self, x, y):
        self.at_point(x, y)
        far = {x: 0}
        queue = [x]
        for point in queue:
            for other in range(self.p):
                if other not in far and self.leads(point, other):
                    far[other] = far[point] + 1
                    queue.append(other)
        return far[y]


class Classes:
    def at_class(self, *classes):
        need(all(i < self.state["e"] for i in classes), -2)

    def is_root(self, g):
        # Its powers by the prime less 1, over each of that one's prime divisors, must not leave 1.
        less = self.p - 1
        divisors = [d for d in range(2, self.p) if less % d == 0]
        return g % self.p != 0 and all(pow(g, less // d, self.p) != 1 for d in divisors)

    def do_split(self, e):
        need(e in range(2, 9) and self.p % e == 1, -33)
        self.state["e"] = e
        return self.p // e

    def do_otherroot(self, g):
        need(self.is_root(g), -22)
        index = self.do_index(g)
        self.state["g"] = g % self.p
        return index

    def do_leastroot(self):
        return next(g for g in range(1, self.p) if self.is_root(g))

    def do_roots(self):
        return self.those(self.is_root)

    def do_index(self, x):
        return self.index(self.left(x))

    def do_class_of(self, x):
        return self.do_index(x) % self.state["e"]

    def do_power(self, n):
        return pow(self.state["g"], n, self.p)

    def of_class(self, i):
        self.at_class(i)
        e = self.state["e"]
        return sorted(pow(self.state["g"], e * n + i, self.p) for n in range(self.p // e))

    def do_members(self, i):
        found = self.of_class(i)
        return [len(found)] + found

    def do_firstof(self, i):
        return min(self.of_class(i))

    def do_behind(self, i, j):
        self.at_class(i, j)
        return len({x + 1 for x in self.of_class(i)} & set(self.of_class(j)))

    def do_rowof(self, i):
        self.at_class(i)
        return [self.state["e"]] + [self.do_behind(i, j) for j in range(self.state["e"])]

    def do_table(self):
        e = self.state["e"]
        return [e * e] + [self.do_behind(i, j) for i in range(e) for j in range(e)]

    def differing(self, numbers, d):
        return sum((a - b - d) % self.p == 0 for a in numbers for b in numbers)

    def do_differs(self, i, d):
        self.at_class(i)
        return self.differing(self.of_class(i), self.left(d))

    def even(self, numbers):
        counts = Counter((a - b) % self.p for a, b in itertools.permutations(numbers, 2))
        return int(len({counts[d] for d in range(1, self.p)}) == 1)

    def do_even(self, i):
        return self.even(self.of_class(i))

    def do_evenzero(self, i):
        return self.even([0] + self.of_class(i))

    def do_sumof(self, i):
        return sum(self.of_class(i))

    def only(self, classes):
        one, = set(classes)
        return one

    def do_timesclass(self, i, a):
        self.at_class(i)
        a = self.left(a)
        return self.only(self.do_class_of(x * a) for x in self.of_class(i))

    def do_opposite(self, i):
        return self.only(self.do_class_of(self.p - x) for x in self.of_class(i))
