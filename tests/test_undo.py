"""undo and past: what's taken back, and what is a change."""

import unittest

from tests.asking import BUSY, CALLS, CHANGING, GREATEST, HOUSE_PRIMES, ask, last, sample

BEFORE_THE_LAST = [13, 4, 11, 2, 2, 3, 2]
# All of the house, each term and each point by itself.
LOOK = ["sums", "kept", "worth 1 0 0 0", "worth 0 1 0 0", "worth 0 0 1 0", "worth 0 0 0 1", "foretold 0", "many 1",
        "first 1", "value", "keptkinds", "from_here", "under", "standing", "table", "members 1", "index 2", "power 1"]
CHANGES = ["prime 7", "prime 11", "besides 3", "stayat 0", "bring", "termhere", "wander", "go 1", "on 1", "on 2",
           "before 1", "before 2", "square", "squareback", "nextbeside", "term 3", f"term {GREATEST}", "out 0", "out 1",
           "times 0 2", "times 1 5", "pair 0 1", "pair 1 0", "put 3", "put 12", "take 5", "take 7", "move 1",
           f"move {GREATEST}", "timesall 2", "timesall 12", "grow", "split 2", "split 4", "split 6", "otherroot 2",
           "otherroot 24"]


class Undo(unittest.TestCase):
    def test_nothing_can_be(self):
        self.assertEqual(ask("begin 7", "undo", "past", "undo"), [[0], [-6], [0], [-6]])
        self.assertEqual(ask("begin 7", "go 2", "undo", "undo", "stand")[1:], [[2], [0], [-6], [1, 1]])

    def test_back_over_each_call_that_changes(self):
        self.assertEqual({call.split()[0] for call in CHANGES}, set(CHANGING))
        before = ask(*BUSY, *LOOK)[len(BUSY):]
        for call in CHANGES:
            with self.subTest(call):
                found = ask(*BUSY, "past", call, "past", "undo", "past", *LOOK)[len(BUSY):]
                self.assertEqual(found[0], [9])
                self.assertGreaterEqual(found[1][0], 0)
                self.assertEqual(found[2:5], [[10], [9], [9]])
                self.assertEqual(found[5:], before)

    def test_each_change_is_one(self):
        for call in CHANGES:
            with self.subTest(call):
                found = ask(*BUSY, *LOOK, call, *LOOK)[len(BUSY):]
                self.assertNotEqual(found[:len(LOOK)], found[len(LOOK) + 1:])

    def test_back_over_a_prime_brings_all_back(self):
        setup = ["begin 13", "go 7", "termhere", "bring", "go 12", "termhere", "bring", "besides 5", "go 11"]
        look = ["sums", "value", "foretold 0", "foretold 3", "keptkinds", "from_here", "stayat 0", "stayat 1"]
        before = ask(*setup, *look)[len(setup):]
        found = ask(*setup, "prime 5", "sums", "undo", *look)[len(setup):]
        self.assertEqual(found[:3], [[2, 0], [5, 1, 13, 2, 0, 2, 2], [8]])
        self.assertEqual(found[3:], before)

    def test_back_over_a_prime_brings_classes_and_root_back(self):
        look = ["sums", "table", "members 2", "index 5", "kept", "first 3"]
        before = ask(*BUSY, *look)[len(BUSY):]
        self.assertEqual(before[0], [13, 4, 11, 2, 2, 3, 7])
        for prime in HOUSE_PRIMES:
            if prime != 13:
                found = ask(*BUSY, f"prime {prime}", "sums", "undo", *look)[len(BUSY):]
                self.assertEqual(found[1][5:], [2, last(f"begin {prime}", "leastroot")[0]])
                self.assertEqual(found[3:], before)

    def test_all_the_way_back(self):
        self.all_the_way_back(["go 6", "bring", "termhere", "on 1", "wander", "bring", "square", "nextbeside",
                               "prime 11", "before 2", "besides 7"])

    def test_all_the_way_back_over_terms_points_and_classes(self):
        self.all_the_way_back(["term 3", "term 5", "put 4", "put 9", "split 4", "otherroot 6", "grow", "take 4",
                               "out 0", "split 3", "prime 17"])
        self.all_the_way_back(["term 3", "put 4", "term 5", "grow", "split 6", "prime 7", "split 3", "otherroot 5",
                               "grow", "term 2", "prime 13"])

    def all_the_way_back(self, changes):
        calls = ["begin 13", "sums"]
        for call in changes:
            calls += [call, "sums"]
        calls += ["past"] + ["undo", "sums"] * len(changes) + ["undo"]
        found = ask(*calls)
        forth = found[1:2 * len(changes) + 2:2]
        back = found[2 * len(changes) + 4:-1:2]
        self.assertEqual(found[2 * len(changes) + 2], [len(changes)])
        self.assertEqual(back, forth[-2::-1])
        self.assertEqual(found[2 * len(changes) + 3:-1:2], [[n] for n in range(len(changes) - 1, -1, -1)])
        self.assertEqual(found[-1], [-6])

    def test_back_over_what_sums_does_not_tell(self):
        changes = ["term 3", "term 5", "times 0 2", "pair 1 0", "put 4", "put 9", "move 3", "timesall 2", "move 12",
                   "out 1", "term 5", "take 10"]
        look = ["kept", "worth 1 0 0 0", "worth 0 1 0 0"]
        forth = [ask("begin 13", *changes[:at], *look)[-3:] for at in range(len(changes) + 1)]
        for at in range(len(changes) + 1):
            found = ask("begin 13", *changes, *["undo"] * at, *look)[-3:]
            self.assertEqual(found, forth[len(changes) - at])

    def test_another_way_behind_an_undo(self):
        found = ask("begin 7", "go 2", "go 3", "undo", "go 4", "past", "undo", "stand", "undo", "stand", "undo")
        self.assertEqual(found[3:], [[1], [4], [2], [1], [2, 1], [0], [1, 1], [-6]])

    def test_taken_back_by_all_primes(self):
        for prime in HOUSE_PRIMES:
            other = 5 if prime != 5 else 97
            for calls in (
                ["go 3", "bring", "termhere", "wander", "on 2", "before 1", "square", "squareback", "nextbeside",
                 f"prime {other}"],
                ["term 3", "put 2", "times 0 2", "term 2", "pair 0 1", "grow", "move 3", "timesall 3", "out 0",
                 f"prime {other}"],
                ["split 4", "split 3", "split 6", "otherroot 3", "otherroot 2", "otherroot 5", "put 3", "take 3",
                 "term 1", f"prime {other}"],
            ):
                found = ask(f"begin {prime}", "sums", "kept", *calls, "past", *["undo"] * 12, "sums", "kept")
                self.assertLessEqual(found[13][0], len(calls))
                self.assertEqual(found[-2:], found[1:3])


class NoChange(unittest.TestCase):
    def test_calls_that_only_tell(self):
        telling = [(name, arity) for name, arity in CALLS if name not in CHANGING + ("begin", "undo")]
        self.assertEqual(len(telling), 115 - 25)
        for name, arity in telling:
            with self.subTest(name):
                found = ask(*BUSY, *LOOK, "past", sample(name), *LOOK, "past", "undo", "sums")[len(BUSY):]
                self.assertGreaterEqual(found[len(LOOK) + 1][0], 0)
                self.assertEqual(found[len(LOOK) + 2:-2], found[:len(LOOK) + 1])
                self.assertEqual(found[-2:], [[8], BEFORE_THE_LAST])

    def test_calls_by_which_all_stays(self):
        for call in ("times 0 1", "times 1 12", "times 0 14", "move 0", "move 13", "move 4294967287", "timesall 1",
                     "timesall 14", "split 3", "otherroot 7", "otherroot 20", "besides 11", "go 4", "go 17"):
            with self.subTest(call):
                found = ask(*BUSY, *LOOK, call, *LOOK, "past", "undo", "sums")[len(BUSY):]
                self.assertGreaterEqual(found[len(LOOK)][0], 0)
                self.assertEqual(found[len(LOOK) + 1:-3], found[:len(LOOK)])
                self.assertEqual(found[-3:], [[9], [8], BEFORE_THE_LAST])

    def test_none_kept_and_a_term_of_1(self):
        self.assertEqual(ask("begin 7", "move 3", "timesall 3", "past", "undo")[1:], [[0], [0], [0], [-6]])
        self.assertEqual(ask("begin 7", "term 1", "term 3", "pair 0 1", "past")[3:], [[3], [2]])
        self.assertEqual(ask("begin 7", "put 0", "timesall 3", "past")[2:], [[1, 0], [1]])
        self.assertEqual(ask("begin 7", "split 2", "otherroot 3", "otherroot 10", "past")[1:], [[3], [1], [1], [0]])

    def test_to_where_one_stands(self):
        self.assertEqual(ask("begin 7", "go 1", "go 8", "square", "squareback", "besides 3", "past")[1:],
                         [[1], [1], [1], [1], [3], [0]])
        self.assertEqual(ask("begin 7", "bring", "stayat 0", "past")[2:], [[1], [1]])

    def test_a_kind_one_comes_round_in(self):
        self.assertEqual(ask("begin 5", "go 4", "on 1", "on 1", "past")[2:], [[1], [4], [3]])

    def test_refusals(self):
        refused = ["prime 6", "prime 13", "besides 13", "besides 9", "stayat 2", "on 0", "on 3", "before 0",
                   "before 3", "term 0", "term 13", "out 2", "times 2 1", "times 0 0", "times 0 13", "pair 0 0",
                   "pair 0 2", "pair 2 1", "put 13", "put 5", "take 4", "take 13", "timesall 0", "timesall 26",
                   "split 0", "split 5", "split 12", "otherroot 0", "otherroot 3", "otherroot 13",
                   f"out {GREATEST}", f"put {GREATEST}", f"split {GREATEST}"]
        for call in refused:
            with self.subTest(call):
                found = ask(*BUSY, *LOOK, call, *LOOK, "past", "undo", "sums")[len(BUSY):]
                self.assertEqual(len(found[len(LOOK)]), 1)
                self.assertLess(found[len(LOOK)][0], 0)
                self.assertEqual(found[len(LOOK) + 1:-3], found[:len(LOOK)])
                self.assertEqual(found[-3:], [[9], [8], BEFORE_THE_LAST])

    def test_refusals_by_what_the_house_has(self):
        for setup, call, number in (
            (["begin 7", "go 0"], "termhere", -22),
            (["begin 7", "go 0"], "square", -6),
            (["begin 7", "go 0"], "squareback", -6),
            (["begin 7", "go 3"], "squareback", -33),
            (["begin 7", "bring"], "bring", -17),
            (["begin 7", "besides 199"], "nextbeside", -33),
            (["begin 7", "go 2"], "out 0", -2),
            (["begin 7", "go 2"], "take 2", -2),
        ):
            found = ask(*setup, "sums", call, "sums", "past", "undo", "sums")[len(setup):]
            self.assertEqual(found[1:5], [[number], found[0], [1], [0]])
            self.assertEqual(found[5], [7, 1, 3, 0, 0, 2, 3])
        full = ["begin 13"] + [f"put {x}" for x in range(12)]
        self.assertEqual(ask(*full, "put 12", "grow", "past", "undo", "kept")[13:],
                         [[-28], [-28], [12], [11], [11, *range(11)]])
        self.assertEqual(ask("begin 7", "put 1", "put 0", "put 6", "grow", "past", "undo", "kept")[4:],
                         [[-33], [3], [2], [2, 1, 0]])
        four = ["begin 13"] + [f"term {a}" for a in (1, 2, 3, 4)]
        self.assertEqual(ask(*four, "term 5", "past", "undo", "term 5")[5:], [[-28], [4], [3], [3]])

    def test_taking_back_is_no_change(self):
        found = ask("begin 7", "go 2", "go 3", "undo", "past", "undo", "past", "undo", "stand")
        self.assertEqual(found[3:], [[1], [1], [0], [0], [-6], [1, 1]])


class Thirteenth(unittest.TestCase):
    def test_twelve_are_kept(self):
        gos = [f"go {n}" for n in range(2, 14)]
        found = ask("begin 97", *gos, "past", *["undo"] * 13, "stand")
        self.assertEqual(found[13], [12])
        self.assertEqual(found[14:26], [[n] for n in range(11, -1, -1)])
        self.assertEqual(found[26:], [[-6], [1, 1]])

    def test_the_first_of_thirteen_is_forgotten(self):
        gos = [f"go {n}" for n in range(2, 15)]
        found = ask("begin 97", *gos, "past", *["undo"] * 13, "stand", "past")
        self.assertEqual(found[14], [12])
        self.assertEqual(found[15:27], [[n] for n in range(11, -1, -1)])
        self.assertEqual(found[27:], [[-6], [2, 1], [0]])

    def test_of_many_the_last_twelve(self):
        gos = [f"go {n}" for n in range(2, 42)]
        found = ask("begin 97", *gos, "past", *["undo", "stand"] * 12, "undo")
        self.assertEqual(found[41], [12])
        self.assertEqual([one[0] for one in found[43:66:2]], list(range(40, 28, -1)))
        self.assertEqual(found[-1], [-6])

    def test_what_is_forgotten_stays_so(self):
        gos = [f"go {n}" for n in range(2, 15)]
        found = ask("begin 97", *gos, "undo", "past", "go 20", "past", "go 21", "past")
        self.assertEqual(found[14:], [[11], [11], [20], [12], [21], [12]])

    def test_thirteen_changes_of_every_sort(self):
        changes = ["term 3", "term 5", "times 0 2", "pair 0 1", "put 4", "put 9", "move 3", "timesall 2", "grow",
                   "take 1", "split 4", "otherroot 6", "out 0"]
        found = ask("begin 13", *changes, "past", *["undo"] * 13, "sums", "worth 1 0 0 0", "past")
        self.assertTrue(all(one[0] >= 0 for one in found[:14]), found)
        self.assertEqual(found[14:], [[12]] + [[n] for n in range(11, -1, -1)]
                         + [[-6], [13, 1, 3, 1, 0, 2, 2], [3], [0]])

    def test_each_call_that_changes_as_the_twelfth_back(self):
        gos = [f"go {n % 5}" for n in range(11)]
        look = ["sums", "kept", "worth 1 0 0 0", "worth 0 1 0 0"]
        before = ask(*BUSY, *look)[len(BUSY):]
        for call in CHANGES:
            with self.subTest(call):
                found = ask(*BUSY, call, *gos, "past", *["undo"] * 12, *look, "undo")
                self.assertEqual(found[len(BUSY) + 12], [12])
                self.assertEqual(found[-5:], before + [[-6]])
                # One more change behind it, and what was before it is forgotten.
                found = ask(*BUSY, call, *look, *gos, "go 4", *["undo"] * 12, *look, "undo")
                self.assertEqual(found[-5:], found[len(BUSY) + 1:len(BUSY) + 5] + [[-6]])

    def test_calls_between_that_change_nothing(self):
        calls = []
        for n in range(2, 15):
            calls += [f"go {n}", f"go {n}", "stand"]
        found = ask("begin 97", *calls, "past", *["undo"] * 12, "stand", "undo")
        self.assertEqual(found[40], [12])
        self.assertEqual(found[53:], [[2, 1], [-6]])


class Parts(unittest.TestCase):
    def test_each_part_is_one_the_stage_could_come_to(self):
        for prime in HOUSE_PRIMES:
            calls = ["go 96", "bring", "termhere", "go 13", "bring", "termhere", "besides 5" if prime != 5 else "sums"]
            found = ask(f"begin {prime}", *calls, "prime 5", "sums", "value", "keptkinds")
            if prime == 5:
                continue
            now, at, beside, terms, points, classes, root = found[9]
            self.assertEqual((now, at, beside, classes, root), (5, 13 % prime % 5, prime, 2, 2))
            self.assertEqual([terms, points], found[8])
            left = [96 % prime, 13 % prime]
            self.assertEqual(terms, len([x for x in left if x and x % 5]))
            self.assertEqual(points, len({x for x in left if x < 5}))
            self.assertEqual(sum(found[11][1:]), found[11][0])


if __name__ == "__main__":
    unittest.main()
