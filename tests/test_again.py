"""The calls of "Squared again and again"."""

import unittest

from tests.agreeing import agree
from tests.asking import GREATEST, HOUSE_PRIMES, ask, by, last
from tests.model import model_answers


def odd_and_twos(number):
    twos = 0
    while number % 2 == 0:
        number //= 2
        twos += 1
    return number, twos


def order_of_two(number):
    many = 1
    while (2 ** many - 1) % number:
        many += 1
    return many


class Walking(unittest.TestCase):
    def test_square(self):
        # By 7: 3 becomes 2, that 4, that 2.
        self.assertEqual(ask("begin 7", "square", "go 3", "square", "stand", "square", "square")[1:],
                         [[1], [3], [2], [2, 1], [4], [2]])
        self.assertEqual(last("begin 7", "go 6", "square"), [1])

    def test_squareback(self):
        # The squares of 3 and 4 leave 2 by 7, those of 2 and 5 leave 4.
        self.assertEqual(ask("begin 7", "squareback", "go 2", "squareback", "stand", "squareback", "stand")[1:],
                         [[1], [2], [3], [3, 2], [-33], [3, 2]])
        self.assertEqual(last("begin 7", "go 4", "squareback"), [2])

    def test_standing_at_0_is_refused_first(self):
        for prime in HOUSE_PRIMES:
            self.assertEqual(ask(f"begin {prime}", "go 0", "square", "squareback", "stand")[2:], [[-6], [-6], [0, 0]])

    def test_back_and_forth(self):
        for prime in HOUSE_PRIMES:
            for a in range(1, prime):
                calls = [f"begin {prime}", f"go {a}", "squareback", "stand", f"go {a}", "square", "stand",
                         "squareback"]
                found = ask(*calls)
                self.assertEqual(found, model_answers(calls))
                self.assertEqual(found[7], [min(a, prime - a)])


class Paths(unittest.TestCase):
    def test_after(self):
        self.assertEqual(by(7, [f"after 3 {n}" for n in range(5)]), [[3], [2], [4], [2], [4]])
        self.assertEqual(by(7, [f"after 3 {GREATEST}", f"after 3 {GREATEST - 1}", f"after 1 {GREATEST}",
                                f"after {GREATEST} 0"]), [[2], [4], [1], [3]])
        self.assertEqual(by(7, ["after 0 0", "after 7 3", f"after 14 {GREATEST}"]), [[-22]] * 3)
        for prime in HOUSE_PRIMES:
            for n in (0, 1, 2, 3, 4, 5, 6, 7, 11, 12, 100, 4294967290, GREATEST):
                agree(self, [f"begin {prime}"], [f"after {a} {n}" for a in range(prime + 2)])

    def test_tail_and_foot(self):
        self.assertEqual(by(7, [f"tail {a}" for a in range(8)]), [[-22], [0], [0], [1], [0], [1], [1], [-22]])
        self.assertEqual(by(7, [f"foot {a}" for a in range(8)]), [[-22], [1], [2], [2], [4], [4], [1], [-22]])
        # By 17 all comes to 1; 3 is a root.
        self.assertEqual(by(17, ["tail 3", "foot 3", "tail 16", "foot 16", "tail 1"]), [[4], [1], [1], [1], [0]])
        for prime in HOUSE_PRIMES:
            numbers = list(range(prime + 2)) + [GREATEST, GREATEST - 1]
            agree(self, [f"begin {prime}"], [f"tail {a}" for a in numbers] + [f"foot {a}" for a in numbers])

    def test_round_of(self):
        self.assertEqual(by(7, ["round_of 3", "round_of 5", "round_of 2", "round_of 6", "round_of 8"]),
                         [[2, 2, 4], [2, 4, 2], [2, 2, 4], [1, 1], [1, 1]])
        # By 11: 2 becomes 4, that 5, that 3, that 9, that 4.
        self.assertEqual(last("begin 11", "round_of 2"), [4, 4, 5, 3, 9])
        self.assertEqual(by(7, ["round_of 0", "round_of 7"]), [[-22]] * 2)
        for prime in HOUSE_PRIMES:
            agree(self, [f"begin {prime}"], [f"round_of {a}" for a in list(range(prime + 2)) + [GREATEST]])

    def test_onround(self):
        self.assertEqual(by(7, [f"onround {a}" for a in range(9)]), [[-22], [1], [1], [0], [1], [0], [0], [-22], [1]])
        for prime in HOUSE_PRIMES:
            agree(self, [f"begin {prime}"], [f"onround {a}" for a in range(prime + 2)])

    def test_meet(self):
        self.assertEqual(by(7, ["meet 3 4", "meet 3 3", "meet 10 3", "meet 3 2", "meet 2 5", "meet 6 1", "meet 1 3"]),
                         [[1, 2], [0, 3], [0, 3], [-33], [1, 4], [1, 1], [-33]])
        self.assertEqual(by(7, ["meet 0 0", "meet 0 1", "meet 1 0", "meet 7 3", "meet 3 7"]), [[-22]] * 5)

    def test_same(self):
        self.assertEqual(by(7, ["same 3 2", "same 3 4", "same 1 6", "same 1 2", "same 3 3", "same 5 13"]),
                         [[1], [1], [1], [0], [1], [0]])
        self.assertEqual(by(7, ["same 0 0", "same 0 1", "same 1 0", "same 7 3", "same 3 7"]), [[-22]] * 5)

    def test_meet_and_same_of_all(self):
        for prime in HOUSE_PRIMES:
            some = [a for a in range(1, prime + 1) if prime < 40 or a % 7 in (1, 5)]
            calls = [f"meet {a} {b}" for a in range(1, prime + 1) for b in some]
            calls += [f"same {a} {b}" for a in range(1, prime + 1) for b in some]
            agree(self, [f"begin {prime}"], calls)

    def test_they_meet_soon_or_never(self):
        for prime in HOUSE_PRIMES:
            deep = last(f"begin {prime}", "depth")[0]
            for found in by(prime, [f"meet {a} {b}" for a in range(1, prime) for b in range(1, prime, 3)]):
                self.assertTrue(found == [-33] or found[0] <= deep)


class Trees(unittest.TestCase):
    def test_hang(self):
        self.assertEqual(by(7, ["hang 2 0", "hang 2 1", "hang 2 2", "hang 2 20", "hang 9 1", "hang 1 1"]),
                         [[1], [1], [0], [0], [1], [1]])
        self.assertEqual(by(17, [f"hang 1 {d}" for d in range(6)]), [[1], [1], [2], [4], [8], [0]])
        self.assertEqual(by(7, ["hang 3 0", "hang 6 1", "hang 3 20"]), [[-33]] * 3)

    def test_hang_refuses_numbers_first(self):
        self.assertEqual(by(7, ["hang 0 0", "hang 7 1", "hang 2 21", "hang 3 21", f"hang 3 {GREATEST}", "hang 0 21"]),
                         [[-22]] * 6)

    def test_all_trees_are_alike(self):
        for prime in HOUSE_PRIMES:
            odd, twos = odd_and_twos(prime - 1)
            asked = [(a, d) for a in range(1, prime) for d in range(0, 22)]
            found = by(prime, [f"hang {a} {d}" for a, d in asked])
            for (a, d), one in zip(asked, found):
                if d > 20:
                    self.assertEqual(one, [-22])
                elif pow(a, odd, prime) != 1:
                    self.assertEqual(one, [-33])
                elif d == 0:
                    self.assertEqual(one, [1])
                else:
                    self.assertEqual(one, [2 ** (d - 1) if d <= twos else 0])

    def test_comesto(self):
        # By 7: 2 and 4 are on one round, 3 and 5 hang on it; 6 hangs on 1.
        self.assertEqual(by(7, [f"comesto {a}" for a in range(9)]),
                         [[-22], [2], [4], [1], [4], [1], [1], [-22], [2]])
        for prime in HOUSE_PRIMES:
            agree(self, [f"begin {prime}"], [f"comesto {a}" for a in list(range(prime + 2)) + [GREATEST]])

    def test_roundsof(self):
        self.assertEqual(by(7, [f"roundsof {k}" for k in range(8)]), [[0], [1], [1]] + [[0]] * 4 + [[-22]])
        self.assertEqual(last("begin 7", f"roundsof {GREATEST}"), [-22])

    def test_rounds_and_depth(self):
        self.assertEqual(by(7, ["rounds", "depth"]), [[2, 2], [1, 3]])
        self.assertEqual(by(17, ["rounds", "depth"]), [[1, 1], [4, 3]])
        self.assertEqual(by(11, ["rounds", "depth"]), [[2, 4], [1, 2]])
        self.assertEqual(by(5, ["rounds", "depth"]), [[1, 1], [2, 2]])
        for prime in HOUSE_PRIMES:
            agree(self, [f"begin {prime}"], ["rounds", "depth"])

    def test_who_comes_from_farthest_off(self):
        for prime in HOUSE_PRIMES:
            deep, first, = last(f"begin {prime}", "depth")
            self.assertEqual(deep, odd_and_twos(prime - 1)[1])
            self.assertEqual([first], last(f"begin {prime}", "least"))
            for a, found in enumerate(by(prime, [f"tail {a}" for a in range(1, prime)]), start=1):
                none = pow(a, prime // 2, prime) != 1
                self.assertEqual(found[0] == deep, none)

    def test_the_divisors_say_the_rounds(self):
        for prime in HOUSE_PRIMES:
            odd = odd_and_twos(prime - 1)[0]
            expected = [0] * prime
            for a in range(odd):
                divisor = next(d for d in range(1, odd + 1) if a * d % odd == 0)
                expected[order_of_two(divisor)] += 1
            expected = [many // k if k else 0 for k, many in enumerate(expected)]
            found = [one[0] for one in by(prime, [f"roundsof {k}" for k in range(prime)])]
            self.assertEqual(found, expected)
            longest = max(k for k in range(prime) if expected[k])
            self.assertEqual(last(f"begin {prime}", "rounds"), [sum(expected), longest])


if __name__ == "__main__":
    unittest.main()
