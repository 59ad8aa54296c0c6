"""undo and past: what's taken back, and what is a change."""

import unittest

from tests.asking import CALLS, HOUSE_PRIMES, ask

BUSY = ["begin 13", "go 5", "bring", "termhere", "go 4", "besides 11"]
# All that can be seen of the house by these calls.
LOOK = ["sums", "stand", "stayat 0", "undo", "stayat 1", "undo", "foretold 0", "foretold 1", "foretold 2",
        "value", "keptkinds", "from_here", "under", "standing"]
CHANGES = ["prime 7", "prime 11", "besides 3", "stayat 0", "bring", "termhere", "wander", "go 1", "on 1", "on 2",
           "before 1", "before 2", "square", "squareback", "nextbeside"]
CHANGING = ("prime", "besides", "stayat", "bring", "termhere", "wander", "go", "on", "before", "square",
            "squareback", "nextbeside")


class Undo(unittest.TestCase):
    def test_nothing_can_be(self):
        self.assertEqual(ask("begin 7", "undo", "past", "undo"), [[0], [-6], [0], [-6]])
        self.assertEqual(ask("begin 7", "go 2", "undo", "undo", "stand")[1:], [[2], [0], [-6], [1, 1]])

    def test_back_over_each_call_that_changes(self):
        self.assertEqual({call.split()[0] for call in CHANGES}, set(CHANGING))
        before = ask(*BUSY, *LOOK)[len(BUSY):]
        for call in CHANGES:
            with self.subTest(call):
                found = ask(*BUSY, "past", call, "past", "undo", "past", *LOOK)[len(BUSY):]
                self.assertEqual(found[0], [5])
                self.assertGreaterEqual(found[1][0], 0)
                self.assertEqual(found[2:5], [[6], [5], [5]])
                self.assertEqual(found[5:], before)

    def test_each_change_is_one(self):
        for call in CHANGES:
            with self.subTest(call):
                found = ask(*BUSY, "sums", "keptkinds", call, "sums", "keptkinds")[len(BUSY):]
                self.assertNotEqual(found[:2], found[3:])

    def test_back_over_a_prime_brings_all_back(self):
        setup = ["begin 13", "go 7", "termhere", "bring", "go 12", "termhere", "bring", "besides 5", "go 11"]
        look = ["sums", "value", "foretold 0", "foretold 3", "keptkinds", "from_here", "stayat 0", "stayat 1"]
        before = ask(*setup, *look)[len(setup):]
        found = ask(*setup, "prime 5", "sums", "undo", *look)[len(setup):]
        self.assertEqual(found[:3], [[2, 0], [5, 1, 13, 2, 0, 2, 2], [8]])
        self.assertEqual(found[3:], before)

    def test_all_the_way_back(self):
        changes = ["go 6", "bring", "termhere", "on 1", "wander", "bring", "square", "nextbeside", "prime 11",
                   "before 2", "besides 7"]
        calls = ["begin 13", "sums"]
        for call in changes:
            calls += [call, "sums"]
        calls += ["past"] + ["undo", "sums"] * len(changes) + ["undo"]
        found = ask(*calls)
        forth = found[1:2 * len(changes) + 2:2]
        back = found[2 * len(changes) + 4:-1:2]
        self.assertEqual(found[2 * len(changes) + 2], [len(changes)])
        self.assertEqual(back, forth[-2::-1])
        self.assertEqual(found[2 * len(changes) + 3:-1:2], [[n] for n in range(len(changes) - 1, -1, -1)])
        self.assertEqual(found[-1], [-6])

    def test_another_way_behind_an_undo(self):
        found = ask("begin 7", "go 2", "go 3", "undo", "go 4", "past", "undo", "stand", "undo", "stand", "undo")
        self.assertEqual(found[3:], [[1], [4], [2], [1], [2, 1], [0], [1, 1], [-6]])

    def test_taken_back_by_all_primes(self):
        for prime in HOUSE_PRIMES:
            other = 5 if prime != 5 else 97
            calls = ["go 3", "bring", "termhere", "wander", "on 2", "before 1", "square", "squareback", "nextbeside",
                     f"prime {other}"]
            found = ask(f"begin {prime}", "sums", *calls, "past", *["undo"] * 12, "sums")
            self.assertLessEqual(found[12][0], len(calls))
            self.assertEqual(found[-1], found[1])


class NoChange(unittest.TestCase):
    def test_calls_that_only_tell(self):
        telling = [(name, arity) for name, arity in CALLS if name not in CHANGING + ("begin", "undo")]
        self.assertEqual(len(telling), 58 - 14)
        for name, arity in telling:
            with self.subTest(name):
                call = " ".join([name] + ["1"] * arity)
                found = ask(*BUSY, "sums", "past", call, "sums", "past", "undo", "sums")[len(BUSY):]
                self.assertGreaterEqual(found[2][0], 0)
                self.assertEqual(found[3:5], found[:2])
                self.assertEqual(found[5:], [[4], [13, 4, 3, 1, 1, 2, 2]])

    def test_to_where_one_stands(self):
        self.assertEqual(ask("begin 7", "go 1", "go 8", "square", "squareback", "besides 3", "past")[1:],
                         [[1], [1], [1], [1], [3], [0]])
        self.assertEqual(ask("begin 7", "bring", "stayat 0", "past")[2:], [[1], [1]])

    def test_a_kind_one_comes_round_in(self):
        self.assertEqual(ask("begin 5", "go 4", "on 1", "on 1", "past")[2:], [[1], [4], [3]])

    def test_refusals(self):
        refused = ["prime 6", "prime 13", "besides 13", "besides 9", "stayat 1", "on 0", "on 3", "before 0",
                   "before 3"]
        for call in refused:
            with self.subTest(call):
                found = ask(*BUSY, "sums", call, "sums", "past", "undo", "sums")[len(BUSY):]
                self.assertLess(found[1][0], 0)
                self.assertEqual(found[2], found[0])
                self.assertEqual(found[3:5], [[5], [4]])
                self.assertEqual(found[5], [13, 4, 3, 1, 1, 2, 2])

    def test_refusals_by_what_the_house_has(self):
        for setup, call, number in (
            (["begin 7", "go 0"], "termhere", -22),
            (["begin 7", "go 0"], "square", -6),
            (["begin 7", "go 0"], "squareback", -6),
            (["begin 7", "go 3"], "squareback", -33),
            (["begin 7", "bring"], "bring", -17),
            (["begin 7", "besides 199"], "nextbeside", -33),
        ):
            found = ask(*setup, "sums", call, "sums", "past", "undo", "sums")[len(setup):]
            self.assertEqual(found[1:5], [[number], found[0], [1], [0]])
            self.assertEqual(found[5], [7, 1, 3, 0, 0, 2, 3])

    def test_taking_back_is_no_change(self):
        found = ask("begin 7", "go 2", "go 3", "undo", "past", "undo", "past", "undo", "stand")
        self.assertEqual(found[3:], [[1], [1], [0], [0], [-6], [1, 1]])


class Thirteenth(unittest.TestCase):
    def test_twelve_are_kept(self):
        gos = [f"go {n}" for n in range(2, 14)]
        found = ask("begin 97", *gos, "past", *["undo"] * 13, "stand")
        self.assertEqual(found[13], [12])
        self.assertEqual(found[14:26], [[n] for n in range(11, -1, -1)])
        self.assertEqual(found[26:], [[-6], [1, 1]])

    def test_the_first_of_thirteen_is_forgotten(self):
        gos = [f"go {n}" for n in range(2, 15)]
        found = ask("begin 97", *gos, "past", *["undo"] * 13, "stand", "past")
        self.assertEqual(found[14], [12])
        self.assertEqual(found[15:27], [[n] for n in range(11, -1, -1)])
        self.assertEqual(found[27:], [[-6], [2, 1], [0]])

    def test_of_many_the_last_twelve(self):
        gos = [f"go {n}" for n in range(2, 42)]
        found = ask("begin 97", *gos, "past", *["undo", "stand"] * 12, "undo")
        self.assertEqual(found[41], [12])
        self.assertEqual([one[0] for one in found[43:66:2]], list(range(40, 28, -1)))
        self.assertEqual(found[-1], [-6])

    def test_what_is_forgotten_stays_so(self):
        gos = [f"go {n}" for n in range(2, 15)]
        found = ask("begin 97", *gos, "undo", "past", "go 20", "past", "go 21", "past")
        self.assertEqual(found[14:], [[11], [11], [20], [12], [21], [12]])

    def test_calls_between_that_change_nothing(self):
        calls = []
        for n in range(2, 15):
            calls += [f"go {n}", f"go {n}", "stand"]
        found = ask("begin 97", *calls, "past", *["undo"] * 12, "stand", "undo")
        self.assertEqual(found[40], [12])
        self.assertEqual(found[53:], [[2, 1], [-6]])


class Parts(unittest.TestCase):
    def test_each_part_is_one_the_stage_could_come_to(self):
        for prime in HOUSE_PRIMES:
            calls = ["go 96", "bring", "termhere", "go 13", "bring", "termhere", "besides 5" if prime != 5 else "sums"]
            found = ask(f"begin {prime}", *calls, "prime 5", "sums", "value", "keptkinds")
            if prime == 5:
                continue
            now, at, beside, terms, points, classes, root = found[9]
            self.assertEqual((now, at, beside, classes, root), (5, 13 % prime % 5, prime, 2, 2))
            self.assertEqual([terms, points], found[8])
            left = [96 % prime, 13 % prime]
            self.assertEqual(terms, len([x for x in left if x and x % 5]))
            self.assertEqual(points, len({x for x in left if x < 5}))
            self.assertEqual(sum(found[11][1:]), found[11][0])


if __name__ == "__main__":
    unittest.main()
