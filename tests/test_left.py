"""The calls of "Squares left"."""

import unittest

from tests.agreeing import agree
from tests.asking import GREATEST, HOUSE_PRIMES, ask, by, last
from tests.model import model_answers

KINDS = (1, 2)
NO_KINDS = (0, 3, 4, GREATEST)


class Standing(unittest.TestCase):
    def test_go(self):
        found = ask("begin 7", "go 3", "stand", "go 7", "stand", "go 0", "stand", f"go {GREATEST}", "stand", "go 6",
                    "stand")
        self.assertEqual(found[1:], [[3], [3, 2], [0], [0, 0], [0], [0, 0], [3], [3, 2], [6], [6, 2]])

    def test_on_by_hand(self):
        # Squares leave 1, 2, 4 by 7; 3, 5, 6 are none.
        self.assertEqual(ask("begin 7", "on 1", "on 1", "on 1", "on 2", "on 2", "on 2", "on 2", "stand")[1:],
                         [[2], [4], [1], [3], [5], [6], [3], [3, 2]])
        self.assertEqual(last("begin 7", "go 0", "on 1"), [1])
        self.assertEqual(last("begin 7", "go 0", "on 2"), [3])
        self.assertEqual(last("begin 7", "go 6", "on 1"), [1])
        self.assertEqual(last("begin 7", "go 6", "on 2"), [3])

    def test_before_by_hand(self):
        self.assertEqual(ask("begin 7", "before 1", "before 1", "before 1", "before 2", "before 2", "stand")[1:],
                         [[4], [2], [1], [6], [5], [5, 2]])
        self.assertEqual(last("begin 7", "go 0", "before 1"), [4])
        self.assertEqual(last("begin 7", "go 0", "before 2"), [6])
        self.assertEqual(last("begin 7", "go 3", "before 2"), [6])
        self.assertEqual(last("begin 7", "go 6", "before 1"), [4])

    def test_from_everywhere(self):
        for prime in HOUSE_PRIMES:
            for call in ("on 1", "on 2", "before 1", "before 2"):
                for at in range(0, prime, 26):
                    calls = [f"begin {prime}"]
                    for a in range(at, min(at + 26, prime)):
                        calls += [f"go {a}", call, "stand"]
                    self.assertEqual(ask(*calls), model_answers(calls), (prime, call))

    def test_round_and_round(self):
        for prime in HOUSE_PRIMES:
            half = prime // 2
            for u in KINDS:
                setup = [f"begin {prime}", "go 0", f"on {u}"]
                forth = ask(*setup, *[f"on {u}"] * half)[2:]
                back = ask(*setup, *[f"before {u}"] * half)[2:]
                self.assertEqual(forth[0], forth[-1])
                self.assertEqual(len({one[0] for one in forth}), half)
                self.assertEqual(back, forth[::-1])

    def test_other_kinds_are_refused(self):
        for u in NO_KINDS:
            self.assertEqual(ask("begin 7", f"on {u}", f"before {u}", "stand")[1:], [[-22], [-22], [1, 1]])


class Kinds(unittest.TestCase):
    def test_kind(self):
        self.assertEqual(by(7, [f"kind {a}" for a in range(9)]), [[0], [1], [1], [2], [1], [2], [2], [0], [1]])
        self.assertEqual(by(5, [f"kind {a}" for a in range(6)]), [[0], [1], [2], [2], [1], [0]])
        for prime in HOUSE_PRIMES:
            agree(self, [f"begin {prime}"], [f"kind {a}" for a in list(range(prime + 2)) + [GREATEST, GREATEST - 1]])

    def test_manyof(self):
        self.assertEqual(by(7, [f"manyof 1 {n}" for n in range(8)]), [[0], [1], [2], [2], [3], [3], [3], [-22]])
        self.assertEqual(by(7, [f"manyof 2 {n}" for n in range(7)]), [[0], [0], [0], [1], [1], [2], [3]])
        self.assertEqual(by(7, ["manyof 0 1", "manyof 3 1", f"manyof {GREATEST} 1", f"manyof 1 {GREATEST}",
                                "manyof 0 7"]), [[-22]] * 5)
        for prime in HOUSE_PRIMES:
            agree(self, [f"begin {prime}"], [f"manyof {u} {n}" for u in KINDS for n in range(prime + 2)])

    def test_nth(self):
        self.assertEqual(by(7, [f"nth 1 {k}" for k in range(4)]), [[1], [2], [4], [-33]])
        self.assertEqual(by(7, [f"nth 2 {k}" for k in range(4)]), [[3], [5], [6], [-33]])
        self.assertEqual(last("begin 7", f"nth 1 {GREATEST}"), [-33])
        for prime in HOUSE_PRIMES:
            agree(self, [f"begin {prime}"], [f"nth {u} {k}" for u in KINDS for k in range(prime // 2 + 2)])

    def test_nth_refuses_the_kind_first(self):
        self.assertEqual(by(7, ["nth 0 0", "nth 3 0", "nth 0 3", f"nth 3 {GREATEST}"]), [[-22]] * 4)

    def test_place(self):
        self.assertEqual(by(7, [f"place {a}" for a in range(9)]),
                         [[-22], [0], [1], [0], [2], [1], [2], [-22], [0]])
        for prime in HOUSE_PRIMES:
            agree(self, [f"begin {prime}"], [f"place {a}" for a in list(range(prime + 2)) + [GREATEST, GREATEST - 1]])

    def test_sum_of_kind(self):
        self.assertEqual(by(7, ["sum_of_kind 1", "sum_of_kind 2"]), [[7], [14]])
        self.assertEqual(by(7, [f"sum_of_kind {u}" for u in NO_KINDS]), [[-22]] * 4)
        for prime in HOUSE_PRIMES:
            agree(self, [f"begin {prime}"], ["sum_of_kind 1", "sum_of_kind 2"])

    def test_product(self):
        self.assertEqual(by(7, ["product 1", "product 2"]), [[1], [6]])
        self.assertEqual(by(5, ["product 1", "product 2"]), [[4], [1]])
        self.assertEqual(by(7, [f"product {u}" for u in NO_KINDS]), [[-22]] * 4)
        for prime in HOUSE_PRIMES:
            agree(self, [f"begin {prime}"], ["product 1", "product 2"])

    def test_least(self):
        leasts = {5: 2, 7: 3, 23: 5, 47: 5, 71: 7, 73: 5, 97: 5}
        for prime, found in leasts.items():
            self.assertEqual(last(f"begin {prime}", "least"), [found])

    def test_the_least_is_prime_and_none(self):
        for prime in HOUSE_PRIMES:
            found = last(f"begin {prime}", "least")[0]
            self.assertTrue(all(found % d for d in range(2, found)))
            self.assertEqual([x for x in range(1, found + 1) if pow(x, prime // 2, prime) != 1], [found])


class Part(unittest.TestCase):
    def test_by_hand(self):
        # By 11: 1, 3, 4, 5, 9 are squares'.
        self.assertEqual(by(11, [f"part {k}" for k in range(1, 12)]),
                         [[0, 0], [0, 3], [0, 1]] + [[0, 0]] * 2 + [[0, 1]] * 6)
        self.assertEqual(by(7, ["part 0", "part 8", f"part {GREATEST}"]), [[-22]] * 3)

    def test_a_part_with_fewer(self):
        # By 43: 1, 4, 6 of 1 to 8 are squares'.
        self.assertEqual(last("begin 43", "part 5"), [0, -2])

    def test_all_parts(self):
        for prime in HOUSE_PRIMES:
            agree(self, [f"begin {prime}"], [f"part {k}" for k in range(prime + 3)])

    def test_half_quarter_and_third(self):
        for prime in HOUSE_PRIMES:
            half, third, quarter = by(prime, ["part 2", "part 3", "part 4"])
            self.assertGreaterEqual(half[1], 0)
            self.assertGreaterEqual(quarter[1], 0)
            self.assertGreater(third[1], 0)

    def test_the_sums_say_it_of_the_half(self):
        for prime in HOUSE_PRIMES:
            half, squares, others = by(prime, ["part 2", "sum_of_kind 1", "sum_of_kind 2"])
            times = {1: 0, 5: 0, 3: 3, 7: 1}[prime % 8]
            self.assertEqual(half[1] * prime, times * (others[0] - squares[0]))
            if prime % 4 == 1:
                self.assertEqual(others, squares)


class Rows(unittest.TestCase):
    def test_pairs(self):
        self.assertEqual(by(7, ["pairs 1 1", "pairs 1 2", "pairs 2 1", "pairs 2 2"]), [[1], [2], [1], [1]])
        self.assertEqual(by(5, ["pairs 1 1", "pairs 1 2", "pairs 2 1", "pairs 2 2"]), [[0], [1], [1], [1]])

    def test_the_remainder_by_four_says_it(self):
        for prime in HOUSE_PRIMES:
            found = [one[0] for one in by(prime, ["pairs 1 1", "pairs 1 2", "pairs 2 1", "pairs 2 2"])]
            if prime % 4 == 1:
                expected = [(prime - 5) // 4] + [(prime - 1) // 4] * 3
            else:
                expected = [(prime - 3) // 4, (prime + 1) // 4] + [(prime - 3) // 4] * 2
            self.assertEqual(found, expected)
            squares = {x * x % prime for x in range(1, prime)}
            self.assertEqual(found[0], len([x for x in squares if x + 1 in squares]))

    def test_threes(self):
        # By 7 the kinds are 1 1 2 1 2 2, by 5 they're 1 2 2 1.
        self.assertEqual(by(7, ["threes 1 1 2", "threes 1 2 1", "threes 2 1 2", "threes 1 2 2", "threes 1 1 1",
                                "threes 2 2 2", "threes 2 1 1", "threes 2 2 1"]),
                         [[1], [1], [1], [1], [0], [0], [0], [0]])
        self.assertEqual(by(5, ["threes 1 2 2", "threes 2 2 1", "threes 1 2 1"]), [[1], [1], [0]])
        for prime in HOUSE_PRIMES:
            agree(self, [f"begin {prime}"], [f"threes {u} {v} {w}" for u in KINDS for v in KINDS for w in KINDS])

    def test_run(self):
        self.assertEqual(by(7, ["run 1", "run 2", "runs 1", "runs 2"]), [[2, 1], [2, 5], [2], [2]])
        self.assertEqual(by(5, ["run 1", "run 2", "runs 1", "runs 2"]), [[1, 1], [2, 2], [2], [1]])
        # By 11: 3, 4, 5 and 6, 7, 8.
        self.assertEqual(by(11, ["run 1", "run 2", "runs 1", "runs 2"]), [[3, 3], [3, 6], [3], [3]])
        # By 13 the runs of two, 3, 4 and 9, 10, are as long: the former is told.
        self.assertEqual(by(13, ["run 1", "run 2", "runs 1", "runs 2"]), [[2, 3], [4, 5], [4], [3]])
        for prime in HOUSE_PRIMES:
            agree(self, [f"begin {prime}"], ["run 1", "run 2", "runs 1", "runs 2"])

    def test_other_kinds_are_refused(self):
        for u in NO_KINDS:
            calls = [f"pairs {u} 1", f"pairs 1 {u}", f"threes {u} 1 1", f"threes 1 {u} 1", f"threes 1 1 {u}",
                     f"run {u}", f"runs {u}"]
            self.assertEqual(by(7, calls), [[-22]] * 7)


if __name__ == "__main__":
    unittest.main()
