"""What holds of the whole house: its stages say the same, by one prime and behind its change."""

import random
import unittest

from tests.agreeing import agree
from tests.asking import CALLS, CHANGING, GREATEST, HOUSE_PRIMES, MOST_CALLS, ask, by, each, last
from tests.model import model_answers

FOUR_TERMS = (5, 96, 10, 77)
TWELVE_POINTS = (96, 0, 1, 3, 4, 12, 36, 50, 61, 62, 80, 95)


def great_house():
    return ["begin 97"] + [f"term {a}" for a in FOUR_TERMS] + [f"put {x}" for x in TWELVE_POINTS]


def counts_of_two(one, other, least=0):
    counts = [0] * 97
    for x in range(least, 97):
        for y in range(least, 97):
            counts[(one * x * x + other * y * y) % 97] += 1
    return counts


def counts_of_four(least=0):
    former = counts_of_two(*FOUR_TERMS[:2], least)
    latter = counts_of_two(*FOUR_TERMS[2:], least)
    return [sum(former[a] * latter[(c - a) % 97] for a in range(97)) for c in range(97)]


def first_row(c, passed=()):
    """The first row that leaves c, sought unknown by unknown."""
    latter = counts_of_two(*FOUR_TERMS[2:])
    a, b, d, e = FOUR_TERMS
    for x in range(97):
        for y in range(97):
            if latter[(c - a * x * x - b * y * y) % 97]:
                for z in range(97):
                    for w in range(97):
                        left = a * x * x + b * y * y + d * z * z + e * w * w
                        if left % 97 == c and (x, y, z, w) not in passed:
                            return [4, x, y, z, w]


class SameCounts(unittest.TestCase):
    def test_side_by_side_behind_and_differing_by_1(self):
        for prime in HOUSE_PRIMES:
            for u in (1, 2):
                for v in (1, 2):
                    pairs, behind = by(prime, [f"pairs {u} {v}", f"behind {u - 1} {v - 1}"])
                    self.assertEqual(pairs, behind)
            found = by(prime, ["pairs 1 1", "behind 0 0", "differ 1", "differs 0 1"])
            self.assertEqual(len({one[0] for one in found}), 1)

    def test_classes_are_kinds_where_there_are_two(self):
        for prime in HOUSE_PRIMES:
            for u in (1, 2):
                found = by(prime, [f"members {u - 1}", f"sumof {u - 1}", f"firstof {u - 1}", f"sum_of_kind {u}",
                                   f"nth {u} 0"] + [f"nth {u} {k}" for k in range(prime // 2)])
                self.assertEqual(found[0], [prime // 2] + [one[0] for one in found[5:]])
                self.assertEqual(found[1:3], found[3:5])

    def test_who_is_led_to_from_0_is_a_square(self):
        for prime in HOUSE_PRIMES:
            led, squares = by(prime, ["of 0", "members 0"])
            self.assertEqual(led, squares)
            kinds = by(prime, [f"kind {x}" for x in range(1, prime)])
            self.assertEqual(by(prime, [f"leads 0 {x}" for x in range(1, prime)]), [[2 - one[0]] for one in kinds])

    def test_all_six_ways_told_one_by_one(self):
        for prime in HOUSE_PRIMES:
            root = last(f"begin {prime}", "roots")[-1]
            depth = last(f"begin {prime}", "depth")[0]
            for a in range(1, prime):
                found = ask(f"begin {prime}", f"otherroot {root}", f"ways {a}", f"kind {a}", f"folds {a}",
                            f"turnedpairs {a}", f"fewest {a}", f"index {a}", f"tail {a}")
                kind, *even, tail = [one[0] for one in found[3:]]
                said = {kind == 1, tail < depth} | {one % 2 == 0 for one in even}
                self.assertEqual(said, {found[2] == [6]})
                self.assertIn(found[2], ([0], [6]))

    def test_squared_the_class_is_doubled_and_the_tail_one_less(self):
        for prime in HOUSE_PRIMES:
            for e in range(2, 9):
                if (prime - 1) % e == 0:
                    root = last(f"begin {prime}", "roots")[-1]
                    for x in {1, 2, 3, prime // 2, prime - 2, prime - 1}:
                        found = ask(f"begin {prime}", f"split {e}", f"otherroot {root}", f"go {x}", "standing",
                                    "square", "standing")
                        before, behind = found[4], found[6]
                        self.assertEqual(behind[3], before[3] * 2 % e)
                        self.assertEqual(behind[2], before[2] * 2 % (prime - 1))
                        self.assertEqual(behind[1], max(before[1] - 1, 0))

    def test_from_here_says_what_leads_says(self):
        for prime in HOUSE_PRIMES:
            points = [x for x in (0, 1, 3, 4, prime - 1) if x < prime and x != 2]
            setup = [f"begin {prime}"] + [f"put {x}" for x in sorted(set(points))] + ["go 2"]
            forth = each(setup, [f"leads 2 {x}" for x in sorted(set(points))])
            back = each(setup, [f"leads {x} 2" for x in sorted(set(points))])
            self.assertEqual(last(*setup, "from_here"), [sum(one[0] for one in forth), sum(one[0] for one in back)])


class OtherPrime(unittest.TestCase):
    SETUP = ["begin 13", "term 7", "term 8", "term 12", "put 12", "put 6", "put 0", "put 7", "put 3", "split 4",
             "otherroot 11", "besides 7", "go 9"]

    def test_all_at_once(self):
        found = ask(*self.SETUP, "sums", "prime 7", "sums", "kept", "worth 1 0 0 0", "worth 0 1 0 0", "worth 0 0 1 0",
                    "table", "index 5", "stand")[len(self.SETUP):]
        self.assertEqual(found, [[13, 9, 7, 3, 5, 4, 11], [2, 3], [7, 2, 13, 2, 3, 2, 3], [3, 6, 0, 3], [1], [5], [0],
                                 [4, 1, 2, 1, 1], [5], [2, 1]])

    def test_taken_back(self):
        look = ["sums", "kept", "worth 1 0 0 0", "worth 0 1 0 0", "worth 0 0 1 0", "table", "index 5", "stand",
                "first 5"]
        before = ask(*self.SETUP, *look)[len(self.SETUP):]
        found = ask(*self.SETUP, "prime 7", "split 3", "otherroot 5", "take 0", "out 0", "undo", "undo", "undo", "undo",
                    "undo", *look)[len(self.SETUP) + 10:]
        self.assertEqual(found, before)

    def test_to_each_prime(self):
        for prime in HOUSE_PRIMES:
            if prime != 13:
                calls = self.SETUP + [f"prime {prime}", "sums", "kept", "worth 1 2 3 4", "never", "zero", "first 2",
                                      "most", "who", "inner", "group", "grow", "table", "roots", "members 1",
                                      "standing", "dealt 17", "dealtpairs", "value", "term 1", "put 4", "split 4",
                                      "split 6", "sums"]
                self.assertEqual(ask(*calls), model_answers(calls))

    def test_to_and_from_each_prime_with_much_kept(self):
        for prime in HOUSE_PRIMES:
            for other in (5, 7, 11, 13, 97):
                if prime != other:
                    points = list(range(prime))[-12:]
                    terms = [1, 2, prime - 1, prime - 2]
                    calls = [f"begin {prime}"] + [f"put {x}" for x in points] + [f"term {a}" for a in terms]
                    calls += [f"prime {other}", "sums", "kept", "three", "grow", "bring", "past", "undo", "undo",
                              "undo", "sums", "kept", "three"]
                    self.assertEqual(ask(*calls), model_answers(calls))

    def test_each_stage_by_the_new_prime_is_as_by_a_begin(self):
        for prime in HOUSE_PRIMES:
            if prime != 5:
                look = ["roots", "greatest", "of 1", "table", "differ 2", "long 2", "fewest 3", "roundby 2 3",
                        "threesround 0", "never", "most", "with_more 2 1", "dealtpairs", "split 2", "sums"]
                begun = ask(f"begin {prime}", *look)[1:]
                self.assertEqual(ask("begin 5", f"prime {prime}", *look)[2:], begun)


class GreatHouse(unittest.TestCase):
    def test_many_and_full(self):
        counts, full = counts_of_four(), counts_of_four(1)
        self.assertEqual(each(great_house(), [f"many {c}" for c in range(97)]), [[one] for one in counts])
        self.assertEqual(each(great_house(), [f"foretold {c}" for c in range(97)]), [[one] for one in counts])
        self.assertEqual(each(great_house(), [f"full {c}" for c in range(97)]), [[one] for one in full])
        self.assertEqual(sum(counts), 97 ** 4)
        self.assertEqual(sum(full), 96 ** 4)

    def test_a_list_of_eighty(self):
        counts, full = counts_of_four(), counts_of_four(1)
        calls = great_house()
        asked = list(range(0, 96, 6)) + [96]
        calls += [f"many {c}" for c in asked] + [f"full {c}" for c in asked] + [f"first {c}" for c in asked]
        calls += ["zero", "never", "three", "ofkind 1", "ofkind 2", "most", "fewestanswers", "with_more 1 1",
                  "with_more 0 1", "kept", "greatest", f"many {GREATEST}"]
        self.assertEqual(len(calls), MOST_CALLS)
        found = ask(*calls)[17:]
        self.assertEqual(found[:17], [[counts[c]] for c in asked])
        self.assertEqual(found[17:34], [[full[c]] for c in asked])
        self.assertEqual(found[34:51], [first_row(c) for c in asked])
        squares = {x * x % 97 for x in range(1, 97)}
        none = min(set(range(1, 97)) - squares)
        kinds = [sum(counts[c] for c in squares), sum(counts[c] for c in range(1, 97) if c not in squares)]
        self.assertEqual(found[51:], [
            first_row(0, [(0, 0, 0, 0)]),
            [0],
            [0, counts[0], counts[1], counts[none]],
            [kinds[0]],
            [kinds[1]],
            [max(counts), counts.index(max(counts))],
            [min(counts), counts.index(min(counts))],
            [-28],
            [-22],
            [12, *TWELVE_POINTS],
            [6, 0, 1, 3, 4, 12, 36],
            [counts[GREATEST % 97]],
        ])

    def test_with_more_ahead_of_the_fourth_term(self):
        counts = counts_of_four()
        setup = great_house() + ["out 3"]
        self.assertEqual(each(setup, [f"with_more {FOUR_TERMS[3]} {c}" for c in range(97)]), [[one] for one in counts])

    def test_the_slow_calls_eighty_at_a_time(self):
        for call in ("first 96", "zero", "greatest", "roots", "three", "ways 5", "hang 1 5", "comesto 1", "steps 0 5",
                     "threesround 0", "table", "evenzero 0", "dealtpairs", "fewest 5", "who"):
            found = ask(*great_house(), *[call] * 63)[17:]
            self.assertEqual(len({tuple(one) for one in found}), 1)

    def test_all_calls_there(self):
        setup = great_house() + ["split 8", "otherroot 10", "besides 199"]
        calls = []
        for name, arity in CALLS:
            if name not in CHANGING + ("begin", "undo"):
                for number in (0, 1, 2, 5, 7, 8, 11, 12, 48, 49, 96, 97, GREATEST):
                    calls.append(" ".join([name] + [str(number)] * arity))
                    if arity > 1:
                        calls.append(" ".join([name, "1"] + [str(number)] * (arity - 1)))
        agree(self, setup, calls)


class FullHouses(unittest.TestCase):
    def test_full_houses_against_the_model(self):
        for seed in range(150):
            dice = random.Random(5000 + seed)
            prime = HOUSE_PRIMES[seed % len(HOUSE_PRIMES)]
            points = dice.sample(range(prime), dice.choice((min(prime, 12), min(prime, 12), 3, 5)))
            calls = [f"begin {prime}"] + [f"put {x}" for x in points]
            calls += [f"term {dice.randrange(1, prime)}" for one in range(dice.choice((2, 3, 4, 4)))]
            calls += [f"split {dice.choice((2, 3, 4, 6, 8))}", f"otherroot {dice.randrange(prime)}"]
            while len(calls) < MOST_CALLS:
                name, arity = dice.choice(CALLS)
                if name not in ("begin", "prime"):
                    most = dice.choice((3, 5, 9, prime, prime + 2, GREATEST + 1))
                    calls.append(" ".join([name] + [str(dice.randrange(most)) for one in range(arity)]))
            for call, found, one in zip(calls, ask(*calls), model_answers(calls), strict=True):
                self.assertEqual(found, one, (seed, call))


if __name__ == "__main__":
    unittest.main()
