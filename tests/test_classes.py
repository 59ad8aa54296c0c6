"""The calls of "Classes by powers"."""

import math
import unittest

from tests.agreeing import agree
from tests.asking import GREATEST, HOUSE_PRIMES, ask, by, each, last


def split_by(prime, classes):
    return [f"begin {prime}", f"split {classes}"]


def all_splits():
    return [(prime, e) for prime in HOUSE_PRIMES for e in range(2, 9) if (prime - 1) % e == 0]


def members(prime, classes, root=None):
    setup = split_by(prime, classes) + ([] if root is None else [f"otherroot {root}"])
    return [one[1:] for one in each(setup, [f"members {i}" for i in range(classes)])]


def is_square(number):
    return number >= 0 and math.isqrt(number) ** 2 == number


class Roots(unittest.TestCase):
    def test_split(self):
        self.assertEqual(ask("begin 7", "split 3", "sums", "split 6", "sums", "split 2", "sums")[1:],
                         [[2], [7, 1, 3, 0, 0, 3, 3], [1], [7, 1, 3, 0, 0, 6, 3], [3], [7, 1, 3, 0, 0, 2, 3]])
        self.assertEqual(last("begin 5", "split 4"), [1])
        self.assertEqual(last("begin 97", "split 8"), [12])

    def test_split_refusals(self):
        found = ask("begin 7", "split 0", "split 1", "split 4", "split 5", "split 7", "split 8", f"split {GREATEST}",
                    "split 9", "sums", "past")
        self.assertEqual(found[1:], [[-33]] * 8 + [[7, 1, 3, 0, 0, 2, 3], [0]])
        # 12 and 96 divide 96, but there are at most eight classes.
        self.assertEqual(by(97, ["split 12", "split 96", "split 1", "split 0", "split 5", "split 7"]), [[-33]] * 6)

    def test_which_splits_there_are(self):
        for prime in HOUSE_PRIMES:
            for e in range(12):
                good = 2 <= e <= 8 and (prime - 1) % e == 0
                self.assertEqual(last(f"begin {prime}", f"split {e}"), [(prime - 1) // e if good else -33])

    def test_otherroot(self):
        # By 7: 1, 3, 2, 6, 4, 5 are the powers of 3, and 1, 5, 4, 6, 2, 3 are those of 5.
        found = ask("begin 7", "otherroot 5", "sums", "index 3", "otherroot 3", "sums", "otherroot 3", "past")
        self.assertEqual(found[1:], [[5], [7, 1, 3, 0, 0, 2, 5], [5], [5], [7, 1, 3, 0, 0, 2, 3], [1], [2]])
        self.assertEqual(ask("begin 7", "otherroot 12", "sums")[1:], [[5], [7, 1, 3, 0, 0, 2, 5]])
        # 4294967295 leaves 3 by 7, 4294967295 - 5 leaves 5.
        self.assertEqual(ask("begin 7", f"otherroot {GREATEST}", f"otherroot {GREATEST - 5}", "sums")[1:],
                         [[1], [5], [7, 1, 3, 0, 0, 2, 5]])

    def test_otherroot_refusals(self):
        found = ask("begin 7", "otherroot 0", "otherroot 7", "otherroot 1", "otherroot 2", "otherroot 4", "otherroot 6",
                    "otherroot 4294967292", f"otherroot {GREATEST - 1}", "sums", "past")
        self.assertEqual(found[1:], [[-22]] * 8 + [[7, 1, 3, 0, 0, 2, 3], [0]])

    def test_leastroot_and_roots(self):
        self.assertEqual(by(7, ["leastroot", "roots"]), [[3], [2, 3, 5]])
        self.assertEqual(by(13, ["leastroot", "roots"]), [[2], [4, 2, 6, 7, 11]])
        self.assertEqual(by(5, ["leastroot", "roots"]), [[2], [2, 2, 3]])
        self.assertEqual(by(41, ["leastroot"]), [[6]])
        self.assertEqual(ask("begin 7", "otherroot 5", "leastroot", "roots")[2:], [[3], [2, 3, 5]])
        for prime in HOUSE_PRIMES:
            agree(self, [f"begin {prime}"], ["leastroot", "roots"])
            found = last(f"begin {prime}", "roots")
            self.assertEqual(found[0], len([n for n in range(1, prime) if math.gcd(n, prime - 1) == 1]))

    def test_each_root_can_be_it(self):
        for prime in HOUSE_PRIMES:
            roots = last(f"begin {prime}", "roots")[1:]
            for g in range(prime):
                found = ask(f"begin {prime}", f"otherroot {g}", "sums", "power 1", "index 1")
                if g in roots:
                    self.assertEqual(found[2][6], g)
                    self.assertEqual(found[3:], [[g], [0]])
                else:
                    self.assertEqual(found[1], [-22])


class Indexes(unittest.TestCase):
    def test_index(self):
        self.assertEqual(by(7, [f"index {x}" for x in range(9)]), [[-22], [0], [2], [1], [4], [5], [3], [-22], [0]])
        self.assertEqual(by(7, [f"index {GREATEST}", "index 4294967292"]), [[1], [-22]])
        self.assertEqual(last("begin 7", "otherroot 5", "index 3"), [5])

    def test_class_of(self):
        self.assertEqual(by(7, [f"class_of {x}" for x in range(8)]), [[-22], [0], [0], [1], [0], [1], [1], [-22]])
        self.assertEqual(each(split_by(7, 3), [f"class_of {x}" for x in range(8)]),
                         [[-22], [0], [2], [1], [1], [2], [0], [-22]])
        self.assertEqual(each(split_by(7, 3), [f"class_of {GREATEST}", "class_of 4294967292"]), [[1], [-22]])
        self.assertEqual(last(*split_by(7, 3), "otherroot 5", "class_of 3"), [2])

    def test_power(self):
        self.assertEqual(by(7, [f"power {n}" for n in range(8)]), [[1], [3], [2], [6], [4], [5], [1], [3]])
        # 4294967295 leaves 3 by 6, and 63 by 96.
        self.assertEqual(by(7, [f"power {GREATEST}", f"power {GREATEST - 3}"]), [[6], [1]])
        self.assertEqual(last("begin 97", f"power {GREATEST}"), [pow(5, 63, 97)])
        self.assertEqual(last("begin 7", "otherroot 5", "power 2"), [4])

    def test_standing_tells_index_and_class(self):
        for prime, e in all_splits():
            for x in (1, 2, prime - 1, prime // 2):
                found = ask(*split_by(prime, e), f"go {x}", "standing", f"index {x}", f"class_of {x}", "square",
                            "standing")
                self.assertEqual(found[3][2:], found[4] + found[5])
                self.assertEqual(found[7][3], found[5][0] * 2 % e)
                self.assertEqual(found[7][1], max(found[3][1] - 1, 0))


class Classes(unittest.TestCase):
    def test_members_first_and_sum(self):
        calls = [f"members {i}" for i in range(4)]
        self.assertEqual(each(split_by(7, 3), calls), [[2, 1, 6], [2, 3, 4], [2, 2, 5], [-2]])
        self.assertEqual(by(7, calls), [[3, 1, 2, 4], [3, 3, 5, 6], [-2], [-2]])
        self.assertEqual(each(split_by(7, 3), [f"firstof {i}" for i in range(4)]), [[1], [3], [2], [-2]])
        self.assertEqual(by(7, [f"sumof {i}" for i in range(3)]), [[7], [14], [-2]])
        self.assertEqual(each(split_by(7, 3), [f"sumof {i}" for i in range(4)]), [[7], [7], [7], [-2]])

    def test_classes_of_one(self):
        self.assertEqual(each(split_by(5, 4), [f"members {i}" for i in range(5)]),
                         [[1, 1], [1, 2], [1, 4], [1, 3], [-2]])
        calls = ["even 0", "evenzero 0", "differs 3 1", "sumof 4", "firstof 4", "rowof 0"]
        self.assertEqual(each(split_by(7, 6), calls), [[1], [0], [0], [4], [4], [6, 0, 0, 1, 0, 0, 0]])

    def test_timesclass(self):
        self.assertEqual(each(split_by(7, 3), ["timesclass 1 3", "timesclass 2 2", "timesclass 0 6", "timesclass 2 8",
                                               f"timesclass 1 {GREATEST}"]), [[2], [1], [0], [2], [2]])
        self.assertEqual(by(7, ["timesclass 0 3", "timesclass 1 3", "timesclass 1 2"]), [[1], [0], [1]])
        self.assertEqual(by(7, ["timesclass 0 0", "timesclass 1 7", "timesclass 0 4294967292", "timesclass 2 1",
                                "timesclass 2 0", f"timesclass {GREATEST} 7"]), [[-22]] * 3 + [[-2]] * 3)

    def test_opposite(self):
        self.assertEqual(by(7, ["opposite 0", "opposite 1", "opposite 2"]), [[1], [0], [-2]])
        self.assertEqual(each(split_by(7, 3), [f"opposite {i}" for i in range(4)]), [[0], [1], [2], [-2]])
        # Just one in each class of four: 4 is opposite to 1, 3 to 2.
        self.assertEqual(each(split_by(5, 4), [f"opposite {i}" for i in range(4)]), [[2], [3], [0], [1]])
        self.assertEqual(each(split_by(13, 4), [f"opposite {i}" for i in range(4)]), [[2], [3], [0], [1]])
        self.assertEqual(each(split_by(17, 4), [f"opposite {i}" for i in range(4)]), [[0], [1], [2], [3]])

    def test_behind_rowof_and_table(self):
        # By 7 the classes of 1 to 6 are 0 2 1 1 2 0 with three of them, 0 0 1 0 1 1 with two.
        self.assertEqual(last(*split_by(7, 3), "table"), [9, 0, 0, 1, 0, 1, 1, 1, 1, 0])
        self.assertEqual(last("begin 7", "table"), [4, 1, 2, 1, 1])
        self.assertEqual(each(split_by(7, 3), [f"rowof {i}" for i in range(4)]),
                         [[3, 0, 0, 1], [3, 0, 1, 1], [3, 1, 1, 0], [-2]])
        self.assertEqual(each(split_by(7, 3), ["behind 0 2", "behind 2 0", "behind 0 0", "behind 1 1", "behind 2 2"]),
                         [[1], [1], [0], [1], [0]])

    def test_differs(self):
        self.assertEqual(by(7, [f"differs 0 {d}" for d in range(9)]), [[-22]] + [[1]] * 6 + [[-22], [1]])
        self.assertEqual(each(split_by(7, 3), [f"differs 1 {d}" for d in range(1, 7)]), [[1], [0], [0], [0], [0], [1]])
        # By 5 the classes are 1, 4 and 2, 3.
        self.assertEqual(by(5, [f"differs 0 {d}" for d in range(1, 5)]), [[0], [1], [1], [0]])
        self.assertEqual(by(5, [f"differs 1 {d}" for d in range(1, 5)]), [[1], [0], [0], [1]])
        self.assertEqual(by(7, ["differs 2 1", "differs 2 0", f"differs {GREATEST} 7", "differs 1 0", "differs 1 7",
                                f"differs 0 {GREATEST}", "differs 0 4294967292"]),
                         [[-2], [-2], [-2], [-22], [-22], [1], [-22]])

    def test_even(self):
        self.assertEqual(by(7, ["even 0", "even 1", "even 2", "evenzero 0", "evenzero 1", "evenzero 2"]),
                         [[1], [1], [-2], [1], [1], [-2]])
        self.assertEqual(by(5, ["even 0", "even 1", "evenzero 0", "evenzero 1"]), [[0]] * 4)
        # By 13 the fourth class is 1, 3, 9: with 0, each difference is met just once.
        self.assertEqual(each(split_by(13, 4), ["members 0", "even 0", "evenzero 0", "differs 0 1", "differs 0 2"]),
                         [[3, 1, 3, 9], [0], [1], [0], [1]])
        self.assertEqual(each(split_by(37, 4), ["even 0", "evenzero 0", "differs 0 1", "differs 0 2"]),
                         [[1], [0], [2], [2]])

    def test_there_is_no_such_class(self):
        for prime, e in all_splits():
            for number in (e, e + 1, 8, GREATEST):
                calls = [f"{name} {number}" for name in ("members", "firstof", "rowof", "even", "evenzero", "sumof",
                                                         "opposite")]
                calls += [f"behind 0 {number}", f"behind {number} 0", f"behind {number} {number}",
                          f"differs {number} 0", f"differs {number} 1", f"timesclass {number} 0",
                          f"timesclass {number} 1"]
                self.assertEqual(each(split_by(prime, e), calls), [[-2]] * 14)

    def test_against_the_model(self):
        for prime, e in all_splits():
            roots = last(f"begin {prime}", "roots")[1:]
            for setup in (split_by(prime, e), split_by(prime, e) + [f"otherroot {roots[-1]}"]):
                numbers = [0, 1, 2, prime - 1, prime, GREATEST]
                calls = ["table"] + [f"index {x}" for x in numbers] + [f"class_of {x}" for x in range(prime + 1)]
                calls += [f"power {n}" for n in (0, 1, 2, prime - 2, prime - 1, prime, GREATEST)]
                for i in range(e):
                    calls += [f"{name} {i}" for name in ("members", "firstof", "rowof", "even", "evenzero", "sumof",
                                                         "opposite")]
                    calls += [f"behind {i} {j}" for j in range(e)]
                    calls += [f"differs {i} {d}" for d in numbers] + [f"timesclass {i} {a}" for a in numbers]
                agree(self, setup, calls)


class Holds(unittest.TestCase):
    def test_three_classes_say_how_four_times_the_prime_is_made(self):
        for prime in HOUSE_PRIMES:
            if prime % 3 == 1:
                found = last(*split_by(prime, 3), "behind 0 0")[0]
                side = 9 * found - prime + 8
                rest = 4 * prime - side * side
                self.assertEqual(side % 3, 1)
                self.assertEqual(rest % 27, 0)
                self.assertTrue(is_square(rest // 27))

    def test_four_classes_say_how_the_prime_is_made(self):
        for prime in HOUSE_PRIMES:
            if prime % 4 == 1:
                found = last(*split_by(prime, 4), "behind 0 0")[0]
                side, odd = divmod(prime - 11 - 16 * found, 6) if prime % 8 == 1 else divmod(16 * found - prime + 7, 2)
                self.assertEqual((odd, side % 4), (0, 1))
                self.assertEqual((prime - side * side) % 4, 0)
                self.assertTrue(is_square((prime - side * side) // 4))

    def test_the_table_is_its_own_mirror(self):
        for prime, e in all_splits():
            told = last(*split_by(prime, e), "table")
            self.assertEqual(told[0], e * e)
            table = [told[1 + i * e:1 + i * e + e] for i in range(e)]
            self.assertEqual(each(split_by(prime, e), [f"rowof {i}" for i in range(e)]), [[e] + row for row in table])
            turn = 0 if (prime - 1) // e % 2 == 0 else e // 2
            for i in range(e):
                self.assertEqual(each(split_by(prime, e), [f"behind {i} {j}" for j in range(e)]),
                                 [[one] for one in table[i]])
                for j in range(e):
                    self.assertEqual(table[i][j], table[-i % e][(j - i) % e])
                    self.assertEqual(table[i][j], table[(j + turn) % e][(i + turn) % e])
                # Behind p - 1 nobody comes.
                self.assertEqual(sum(table[i]), (prime - 1) // e - (i == turn))

    def test_which_classes_are_even(self):
        even = {2: [p for p in HOUSE_PRIMES if p % 4 == 3], 4: [5, 37], 8: [73]}
        zero = {2: [p for p in HOUSE_PRIMES if p % 4 == 3], 4: [13], 8: []}
        for prime, e in all_splits():
            if e in even:
                for i in range(e):
                    found = each(split_by(prime, e), [f"even {i}", f"evenzero {i}"])
                    self.assertEqual(found, [[int(prime in even[e])], [int(prime in zero[e])]], (prime, e))

    def test_even_says_what_differs_says(self):
        for prime, e in all_splits():
            counts = each(split_by(prime, e), [f"differs 0 {d}" for d in range(1, prime)])
            self.assertEqual(last(*split_by(prime, e), "even 0"), [int(len({one[0] for one in counts}) == 1)])

    def test_classes_are_all_remainders(self):
        for prime, e in all_splits():
            found = members(prime, e)
            self.assertEqual(sorted(sum(found, [])), list(range(1, prime)))
            self.assertEqual({len(one) for one in found}, {(prime - 1) // e})
            sums = each(split_by(prime, e), [f"sumof {i}" for i in range(e)])
            self.assertEqual(sums, [[sum(one)] for one in found])

    def test_another_root_renumbers_the_classes_alone(self):
        for prime, e in all_splits():
            for root in last(f"begin {prime}", "roots")[1:6]:
                self.assertEqual(sorted(members(prime, e, root)), sorted(members(prime, e)))
                self.assertEqual(members(prime, e, root)[0], members(prime, e)[0])

    def test_the_root_another_one_and_back(self):
        for prime in HOUSE_PRIMES:
            least, *others = last(f"begin {prime}", "roots")[1:]
            for root in others[:4]:
                look = ["sums", "table", "index 2", "members 1"]
                found = ask(f"begin {prime}", *look, f"otherroot {root}", f"otherroot {least}", *look)
                self.assertEqual(found[7:], found[1:5])
                self.assertEqual(found[5][0] * found[6][0] % (prime - 1), 1)


if __name__ == "__main__":
    unittest.main()
