"""The calls of "Between two primes", as far as turnedpairs (the others: test_cards)."""

import unittest

from tests.agreeing import agree
from tests.asking import GREATEST, HOUSE_PRIMES, ODD_PRIMES, ask, by, each, last


def beside(prime, other):
    return [f"begin {prime}", f"besides {other}"]


class Beside(unittest.TestCase):
    def test_nextbeside(self):
        self.assertEqual(ask("begin 7", "nextbeside", "nextbeside", "sums")[1:], [[5], [11], [7, 1, 11, 0, 0, 2, 3]])
        self.assertEqual(last("begin 5", "nextbeside"), [7])
        self.assertEqual(ask("begin 7", "besides 197", "nextbeside", "nextbeside", "sums")[2:],
                         [[199], [-33], [7, 1, 199, 0, 0, 2, 3]])

    def test_all_one_behind_another(self):
        for prime in HOUSE_PRIMES:
            others = [[q] for q in ODD_PRIMES if q not in (3, prime)]
            self.assertEqual(ask(f"begin {prime}", *["nextbeside"] * 45)[1:], others + [[-33]] * (45 - len(others)))


class Folds(unittest.TestCase):
    def test_fold(self):
        # 3, 6, 9 leave 3, 6, 2 by 7; above 3 is turned.
        self.assertEqual(by(7, ["fold 3 1", "fold 3 2", "fold 3 3", "fold 10 2"]), [[3, 0], [1, 1], [2, 0], [1, 1]])
        self.assertEqual(by(7, ["fold 1 3", "fold 6 3", "fold 6 1"]), [[3, 0], [3, 1], [1, 1]])

    def test_fold_refusals(self):
        calls = ["fold 0 1", "fold 7 1", "fold 3 0", "fold 3 4", f"fold 3 {GREATEST}", "fold 0 0", "folds 0",
                 "folds 7", "foldedall 0", "foldedall 14"]
        self.assertEqual(by(7, calls), [[-22]] * 10)

    def test_folds_and_foldedall(self):
        self.assertEqual(by(7, ["folds 3", "foldedall 3", "folds 1", "foldedall 1", "folds 6", "foldedall 6"]),
                         [[1], [3, 3, 1, 2], [0], [3, 1, 2, 3], [3], [3, 1, 2, 3]])
        self.assertEqual(by(13, ["folds 2", "foldedall 2"]), [[3], [6, 2, 4, 6, 5, 3, 1]])

    def test_all_folds(self):
        for prime in HOUSE_PRIMES:
            numbers = list(range(prime + 2)) + [GREATEST]
            agree(self, [f"begin {prime}"], [f"folds {a}" for a in numbers] + [f"foldedall {a}" for a in numbers])
            calls = [f"fold {a} {k}" for a in numbers for k in (0, 1, 2, prime // 3, prime // 2, prime // 2 + 1)]
            agree(self, [f"begin {prime}"], calls)

    def test_folded_all_are_1_to_the_half_each_once(self):
        for prime in HOUSE_PRIMES:
            for found in by(prime, [f"foldedall {a}" for a in range(1, prime)]):
                self.assertEqual(found[0], prime // 2)
                self.assertEqual(sorted(found[1:]), list(range(1, prime // 2 + 1)))

    def test_even_where_a_square_leaves_it(self):
        for prime in HOUSE_PRIMES:
            squares = {x * x % prime for x in range(1, prime)}
            found = by(prime, [f"folds {a}" for a in range(1, prime)] + [f"turnedpairs {a}" for a in range(1, prime)])
            expected = [a not in squares for a in range(1, prime)] * 2
            self.assertEqual([one[0] % 2 == 1 for one in found], expected)


class Line(unittest.TestCase):
    def test_by_hand(self):
        # By 7 and 5 the points are 1 to 3 to the right, 1 and 2 up; 5 / 7, 10 / 7, 15 / 7 is the line's height.
        calls = ["column 1", "column 2", "column 3", "row 1", "row 2", "under", "over"]
        self.assertEqual(each(beside(7, 5), calls), [[0], [1], [2], [1], [2], [3], [3]])
        calls = ["inside 1 1", "inside 2 1", "inside 2 2", "inside 3 2", "inside 3 1", "inside 1 2"]
        self.assertEqual(each(beside(7, 5), calls), [[2], [1], [2], [1], [1], [2]])

    def test_3_and_5(self):
        calls = ["column 1", "column 2", "row 1", "under", "over", "inside 1 1", "inside 2 1"]
        self.assertEqual(by(5, calls), [[0], [1], [1], [1], [1], [2], [1]])

    def test_refusals(self):
        calls = ["column 0", "column 4", f"column {GREATEST}", "row 0", "row 3", f"row {GREATEST}", "inside 0 1",
                 "inside 1 0", "inside 4 1", "inside 1 3", f"inside {GREATEST} 1", f"inside 1 {GREATEST}"]
        self.assertEqual(each(beside(7, 5), calls), [[-22]] * 12)
        # The half of the other one, where that's greater, is not the edge.
        self.assertEqual(each(beside(5, 97), ["column 3", "row 48", "row 49", "inside 2 48", "inside 3 1"]),
                         [[-22], [2], [-22], [2], [-22]])

    def test_all_columns_and_rows(self):
        for prime in HOUSE_PRIMES:
            for other in (3, 5, 7, 11, 59, 97, 197, 199):
                if other != prime:
                    calls = [f"column {k}" for k in range(prime // 2 + 2)] + [f"row {k}" for k in range(other // 2 + 2)]
                    agree(self, beside(prime, other), calls + ["under", "over"])

    def test_inside_agrees_with_columns(self):
        for prime, other in ((5, 199), (13, 3), (13, 11), (23, 29), (97, 89), (43, 3)):
            calls = [f"inside {x} {y}" for x in range(prime // 2 + 2) for y in range(other // 2 + 2)]
            agree(self, beside(prime, other), calls)

    def test_under_and_over_are_all(self):
        for prime in HOUSE_PRIMES:
            for other in ODD_PRIMES[::3] + (199,):
                if other != prime:
                    under, over = each(beside(prime, other), ["under", "over"])
                    self.assertEqual(under[0] + over[0], (prime // 2) * (other // 2))

    def test_the_one_says_it_of_the_other(self):
        for one in HOUSE_PRIMES:
            for other in HOUSE_PRIMES:
                if one < other:
                    forth = each(beside(one, other), [f"folds {other}", "under", "over"])
                    back = each(beside(other, one), [f"folds {one}", "under", "over"])
                    self.assertEqual(forth[1:], back[:0:-1])
                    together = (forth[0][0] + back[0][0]) % 2 == 0
                    self.assertEqual(together, one % 4 == 1 or other % 4 == 1)

    def test_points_under_are_even_where_turned_ones_are(self):
        for prime in HOUSE_PRIMES:
            for other in ODD_PRIMES[::2]:
                if other != prime:
                    found = each(beside(prime, other), ["under", f"folds {other}", f"turnedpairs {other}"])
                    self.assertEqual(len({one[0] % 2 for one in found}), 1)


class Order(unittest.TestCase):
    def test_multiple(self):
        self.assertEqual(by(7, [f"multiple 3 {k}" for k in range(9)]),
                         [[-22], [3], [6], [2], [5], [1], [4], [-22], [-22]])
        self.assertEqual(by(7, [f"multiple {GREATEST} 2", f"multiple 3 {GREATEST}", "multiple 0 1", "multiple 7 1",
                                "multiple 0 0"]), [[6], [-22], [-22], [-22], [-22]])

    def test_where(self):
        self.assertEqual(by(7, [f"where 3 {b}" for b in range(9)]), [[-22], [5], [3], [1], [6], [4], [2], [-22], [5]])
        self.assertEqual(by(7, ["where 0 1", "where 7 1", "where 1 0", "where 0 0", f"where {GREATEST} 6"]),
                         [[-22], [-22], [-22], [-22], [2]])

    def test_turnedpairs(self):
        # By 5: 2, 4, 1, 3.
        self.assertEqual(by(5, [f"turnedpairs {a}" for a in range(7)]), [[-22], [0], [3], [3], [6], [-22], [0]])
        # By 7: 3, 6, 2, 5, 1, 4.
        self.assertEqual(by(7, ["turnedpairs 3", "turnedpairs 6", f"turnedpairs {GREATEST}"]), [[9], [15], [9]])
        self.assertEqual(last("begin 97", "turnedpairs 96"), [96 * 95 // 2])

    def test_all(self):
        for prime in HOUSE_PRIMES:
            some = [0, 1, 2, 3, prime // 2, prime // 2 + 1, prime - 1, prime, prime + 1, GREATEST]
            calls = [f"multiple {a} {k}" for a in range(prime + 1) for k in some]
            calls += [f"where {a} {b}" for a in range(prime + 1) for b in some]
            calls += [f"turnedpairs {a}" for a in range(prime + 2)]
            agree(self, [f"begin {prime}"], calls)

    def test_where_finds_the_multiple(self):
        for prime in HOUSE_PRIMES:
            found = by(prime, [f"where {a} {b}" for a in (1, 2, prime - 1) for b in range(1, prime)])
            asked = [(a, b) for a in (1, 2, prime - 1) for b in range(1, prime)]
            for (a, b), one in zip(asked, found):
                self.assertEqual(a * one[0] % prime, b)


if __name__ == "__main__":
    unittest.main()
