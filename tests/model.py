"""Another house, made straight from the document's words, to try the program against.

It's built otherwise than the program where that can be: kinds by powers, rounds by walking
twice the prime's steps, exchanges by making them, answers by adding up tallies.
"""

from fractions import Fraction
from functools import lru_cache

from tests.asking import HOUSE_PRIMES, ODD_PRIMES
from tests.model_parts import Cards, Classes, Points, Terms
from tests.refusing import Refused, need


def squared(a, n, p):
    # 2 to the n is taken by p - 1, which may be done as a is no multiple of p.
    return pow(a, pow(2, n, p - 1) + p - 1, p)


@lru_cache(maxsize=None)
def returns(a, p):
    return any(squared(a, n, p) == a for n in range(1, p))


@lru_cache(maxsize=None)
def tail(a, p):
    return next(n for n in range(p) if returns(squared(a, n, p), p))


@lru_cache(maxsize=None)
def tally(terms, p):
    if not terms:
        return {0: 1}
    found = {}
    for sofar, many in tally(terms[:-1], p).items():
        for x in range(p):
            left = (sofar + terms[-1] * x * x) % p
            found[left] = found.get(left, 0) + many
    return found


class Model(Cards, Terms, Points, Classes):
    def __init__(self):
        self.state = None
        self.history = []

    def call(self, name, given):
        if name != "begin" and self.state is None:
            return [-11]
        old = None if self.state is None else dict(self.state)
        try:
            found = getattr(self, "do_" + name)(*given)
        except Refused as refusal:
            self.state = old
            return [refusal.args[0]]
        if name not in ("begin", "undo") and self.state != old:
            self.history = (self.history + [old])[-12:]
        return list(found) if isinstance(found, (list, tuple)) else [found]

    @property
    def p(self):
        return self.state["p"]

    @property
    def q(self):
        return self.state["q"]

    @property
    def at(self):
        return self.state["at"]

    @at.setter
    def at(self, to):
        self.state["at"] = to

    def left(self, a):
        need(a % self.p, -22)
        return a % self.p

    def kind(self, a):
        return {0: 0, 1: 1, self.p - 1: 2}[pow(a, self.p // 2, self.p)]

    def of(self, u):
        need(u in (1, 2), -22)
        return [x for x in range(1, self.p) if self.kind(x) == u]

    # The house's own.

    def do_begin(self, p):
        need(p in HOUSE_PRIMES, -22)
        self.state = {"p": p, "at": 1, "q": 3, "terms": (), "kept": (), "e": 2, "g": self.least_root(p)}
        self.history = []
        return 0

    @staticmethod
    def least_root(p):
        return next(g for g in range(2, p) if len({pow(g, n, p) for n in range(p - 1)}) == p - 1)

    def do_prime(self, p):
        need(p in HOUSE_PRIMES, -22)
        need(p != self.p, -17)
        old = self.state
        self.state = {
            "p": p,
            "at": old["at"] % p,
            "q": old["p"] if old["q"] == p else old["q"],
            "terms": tuple(t % p for t in old["terms"] if t % p),
            "kept": tuple(x for x in old["kept"] if x < p),
            "e": 2,
            "g": self.least_root(p),
        }
        return len(self.state["terms"]), len(self.state["kept"])

    def do_undo(self):
        need(self.history, -6)
        self.state = dict(self.history[-1])
        self.history = self.history[:-1]
        return len(self.history)

    def do_past(self):
        return len(self.history)

    def do_sums(self):
        s = self.state
        return s["p"], s["at"], s["q"], len(s["terms"]), len(s["kept"]), s["e"], s["g"]

    def do_besides(self, q):
        need(q in ODD_PRIMES and q != self.p, -22)
        old = self.q
        self.state["q"] = q
        return old

    def do_stayat(self, k):
        need(k < len(self.state["kept"]), -2)
        self.at = self.state["kept"][k]
        return self.at

    def do_bring(self):
        need(self.at not in self.state["kept"], -17)
        need(len(self.state["kept"]) < 12, -28)
        self.state["kept"] += (self.at,)
        return len(self.state["kept"])

    def do_termhere(self):
        need(self.at != 0, -22)
        need(len(self.state["terms"]) < 4, -28)
        self.state["terms"] += (self.at,)
        return len(self.state["terms"]) - 1

    def do_wander(self):
        ring = list(range(self.at + 1, self.p)) + list(range(self.at))
        free = [x for x in ring if self.leads(self.at, x) and x not in self.state["kept"]]
        need(free, -33)
        self.at = free[0]
        return self.at

    def do_from_here(self):
        kept = [x for x in self.state["kept"] if x != self.at]
        return sum(self.leads(self.at, x) for x in kept), sum(self.leads(x, self.at) for x in kept)

    def do_value(self):
        terms, kept = self.state["terms"], self.state["kept"]
        need(len(kept) >= len(terms), -33)
        return sum(t * x ** 2 for t, x in zip(terms, kept)) % self.p

    def index(self, a):
        return next(n for n in range(self.p) if pow(self.state["g"], n, self.p) == a)

    def do_ways(self, a):
        a = self.left(a)
        saying = (
            self.kind(a) == 1,
            self.do_folds(a) % 2 == 0,
            self.do_turnedpairs(a) % 2 == 0,
            self.exchanges(a) % 2 == 0,
            self.index(a) % 2 == 0,
            self.do_tail(a) < self.do_depth()[0],
        )
        return sum(saying)

    def exchanges(self, a):
        row = [0] + [a * k % self.p for k in range(1, self.p)]
        many = 0
        for k in range(1, self.p):
            while row[k] != k:
                other = row[k]
                row[k], row[other] = row[other], other
                many += 1
        return many

    def do_foretold(self, c):
        return tally(self.state["terms"], self.p).get(c % self.p, 0)

    def do_standing(self):
        need(self.at, -6)
        index = self.index(self.at)
        return self.kind(self.at), self.do_tail(self.at), index, index % self.state["e"]

    def do_keptkinds(self):
        kinds = [self.kind(x) for x in self.state["kept"]]
        return [len(kinds)] + [kinds.count(u) for u in (0, 1, 2)]

    # "Squares left".

    def do_go(self, a):
        self.at = a % self.p
        return self.at

    def do_on(self, u):
        those = self.of(u)
        self.at = min(those, key=lambda x: (x <= self.at, x))
        return self.at

    def do_before(self, u):
        those = self.of(u)
        self.at = max(those, key=lambda x: (x < self.at, x))
        return self.at

    def do_stand(self):
        return self.at, self.kind(self.at)

    def do_kind(self, a):
        return self.kind(a)

    def do_manyof(self, u, n):
        need(n < self.p, -22)
        return sum(x <= n for x in self.of(u))

    def do_nth(self, u, k):
        those = self.of(u)
        need(k < len(those), -33)
        return those[k]

    def do_place(self, a):
        a = self.left(a)
        return sum(x < a for x in self.of(self.kind(a)))

    def do_sum_of_kind(self, u):
        return sum(self.of(u))

    def do_part(self, k):
        need(1 <= k <= self.p, -22)
        return 0, sum({0: 0, 1: 1, 2: -1}[self.kind(x)] for x in range(1, self.p // k + 1))

    def text(self):
        return "".join(str(self.kind(x)) for x in range(1, self.p))

    def seek(self, *kinds):
        need(all(u in (1, 2) for u in kinds), -22)
        wanted = "".join(str(u) for u in kinds)
        return sum(self.text()[at:].startswith(wanted) for at in range(self.p))

    def do_pairs(self, u, v):
        return self.seek(u, v)

    def do_threes(self, u, v, w):
        return self.seek(u, v, w)

    def pieces(self, u):
        need(u in (1, 2), -22)
        return [piece for piece in self.text().split(str(3 - u)) if piece]

    def do_run(self, u):
        longest = max(self.pieces(u), key=len)
        return len(longest), self.text().index(longest) + 1

    def do_runs(self, u):
        return len(self.pieces(u))

    def do_least(self):
        return min(self.of(2))

    def do_product(self, u):
        found = 1
        for x in self.of(u):
            found *= x
        return found % self.p

    # "Squared again and again".

    def squared(self, a, n):
        return squared(a, n, self.p)

    def do_square(self):
        need(self.at, -6)
        self.at = self.at ** 2 % self.p
        return self.at

    def do_squareback(self):
        need(self.at, -6)
        need(self.kind(self.at) == 1, -33)
        self.at = next(x for x in range(1, self.p) if (x * x - self.at) % self.p == 0)
        return self.at

    def do_after(self, a, n):
        return self.squared(self.left(a), n)

    def do_tail(self, a):
        return tail(self.left(a), self.p)

    def do_foot(self, a):
        return self.squared(self.left(a), self.do_tail(a))

    def round(self, a):
        found = [self.do_foot(a)]
        while self.squared(found[-1], 1) != found[0]:
            found.append(self.squared(found[-1], 1))
        return found

    def do_round_of(self, a):
        return [len(self.round(a))] + self.round(a)

    def do_onround(self, a):
        return int(returns(self.left(a), self.p))

    def do_meet(self, a, b):
        a, b = self.left(a), self.left(b)
        found = [n for n in range(2 * self.p) if self.squared(a, n) == self.squared(b, n)]
        need(found, -33)
        return found[0], self.squared(a, found[0])

    def do_same(self, a, b):
        return int(set(self.round(a)) == set(self.round(b)))

    def do_hang(self, a, d):
        a = self.left(a)
        need(d <= 20, -22)
        need(returns(a, self.p), -33)
        return sum(self.do_tail(x) == d and self.do_foot(x) == a for x in range(1, self.p))

    def do_comesto(self, a):
        a = self.left(a)
        return sum(any(self.squared(x, n) == a for n in range(self.p)) for x in range(1, self.p))

    def lengths(self):
        return [len(found) for found in {frozenset(self.round(x)) for x in range(1, self.p)}]

    def do_roundsof(self, k):
        need(k < self.p, -22)
        return self.lengths().count(k)

    def do_rounds(self):
        return len(self.lengths()), max(self.lengths())

    def do_depth(self):
        longest = max(self.do_tail(x) for x in range(1, self.p))
        return longest, next(x for x in range(1, self.p) if self.do_tail(x) == longest)

    # "Between two primes".

    def do_nextbeside(self):
        found = [q for q in ODD_PRIMES if q > self.q and q != self.p]
        need(found, -33)
        self.state["q"] = found[0]
        return found[0]

    def do_fold(self, a, k):
        a = self.left(a)
        need(1 <= k and 2 * k < self.p, -22)
        left = a * k % self.p
        return min(left, self.p - left), int(2 * left > self.p)

    def all_folds(self, a):
        return [self.do_fold(a, k) for k in range(1, self.p // 2 + 1)]

    def do_folds(self, a):
        return sum(turned for folded, turned in self.all_folds(a))

    def do_foldedall(self, a):
        return [self.p // 2] + [folded for folded, turned in self.all_folds(a)]

    def do_column(self, k):
        need(1 <= k and 2 * k < self.p, -22)
        return self.q * k // self.p

    def do_row(self, k):
        need(1 <= k and 2 * k < self.q, -22)
        return self.p * k // self.q

    def do_under(self):
        return sum(self.do_column(k) for k in range(1, self.p // 2 + 1))

    def do_over(self):
        return sum(self.do_row(k) for k in range(1, self.q // 2 + 1))

    def do_inside(self, x, y):
        need(1 <= x and 2 * x < self.p and 1 <= y and 2 * y < self.q, -22)
        return 1 if Fraction(y, x) < Fraction(self.q, self.p) else 2

    def do_multiple(self, a, k):
        need(1 <= k < self.p, -22)
        return self.left(a) * k % self.p

    def do_where(self, a, b):
        return self.left(b) * pow(self.left(a), -1, self.p) % self.p

    def do_turnedpairs(self, a):
        a = self.left(a)
        row = [a * k % self.p for k in range(1, self.p)]
        return sum(row[i] > row[j] for j in range(len(row)) for i in range(j))


def model_answers(calls):
    model = Model()
    return [model.call(call.split()[0], [int(word) for word in call.split()[1:]]) for call in calls]
