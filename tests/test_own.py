"""The house's own calls, promises 1 to 3, but undo (test_undo)."""

import unittest

from tests.asking import GREATEST, HOUSE_PRIMES, ODD_PRIMES, ask, by, each, last
from tests.model import model_answers


def keeping(*points):
    calls = []
    for point in points:
        calls += [f"go {point}", "bring"]
    return calls


def terms(*numbers):
    calls = []
    for number in numbers:
        calls += [f"go {number}", "termhere"]
    return calls


class Prime(unittest.TestCase):
    def test_refusals(self):
        for number in [0, 1, 2, 3, 4, 9, 25, 95, 98, 99, 101, 103, 199, GREATEST]:
            self.assertEqual(last("begin 13", f"prime {number}"), [-22])
        for prime in HOUSE_PRIMES:
            self.assertEqual(ask(f"begin {prime}", f"prime {prime}", "past")[1:], [[-17], [0]])

    def test_from_each_to_each(self):
        for one in HOUSE_PRIMES:
            for other in HOUSE_PRIMES:
                if one != other:
                    found = ask(f"begin {one}", f"go {one - 1}", f"prime {other}", "sums", "past")
                    self.assertEqual(found[2], [0, 0])
                    self.assertEqual(found[3][:6], [other, (one - 1) % other, 3, 0, 0, 2])
                    self.assertEqual(found[3][6], last(f"begin {other}", "sums")[6])
                    self.assertEqual(found[4], [2])

    def test_where_one_stands_may_come_to_0(self):
        self.assertEqual(ask("begin 13", "go 7", "prime 7", "stand", "standing")[2:], [[0, 0], [0, 0], [-6]])

    def test_terms_that_leave_0_are_gone_and_the_others_are_numbered_less(self):
        # 8 and 12 leave 1 and 5 by 7, and a square leaves 2, which is 7 less 5.
        found = ask("begin 13", *terms(7, 8, 12), "prime 7", "foretold 0", "foretold 1", "go 3", "termhere")
        self.assertEqual(found[7:], [[2, 0], [13], [6], [3], [2]])

    def test_terms_become_what_they_leave(self):
        # 9 and 12 leave 2 and 5 by 7; with 1 and 2 kept that's 2 and 20.
        found = ask("begin 13", *terms(9, 12), *keeping(1, 2), "prime 7", "value")
        self.assertEqual(found[-2:], [[2, 2], [1]])

    def test_points_below_stay_kept_in_order(self):
        found = ask("begin 13", *keeping(12, 6, 7, 0, 3), "prime 7", *[f"stayat {k}" for k in range(4)])
        self.assertEqual(found[-5:], [[0, 3], [6], [0], [3], [-2]])

    def test_what_stands_beside(self):
        self.assertEqual(last("begin 13", "besides 11", "prime 11", "sums")[2], 13)
        self.assertEqual(last("begin 13", "besides 11", "prime 7", "sums")[2], 11)
        self.assertEqual(last("begin 13", "besides 199", "prime 7", "sums")[2], 199)
        self.assertEqual(last("begin 5", "besides 97", "prime 97", "sums")[:3], [97, 1, 5])

    def test_a_greater_prime_leaves_all_as_it_was(self):
        found = ask("begin 5", *terms(1, 2), *keeping(4, 0), "prime 97", "sums", "stayat 0", "value")
        self.assertEqual(found[-4:], [[2, 2], [97, 0, 3, 2, 2, 2, 5], [4], [16]])


class Besides(unittest.TestCase):
    def test_which_may_stand_there(self):
        for prime in HOUSE_PRIMES:
            numbers = list(range(0, 215)) + [499, GREATEST]
            for number, found in zip(numbers, by_each(prime, [f"besides {n}" for n in numbers])):
                good = number in ODD_PRIMES and number != prime
                self.assertEqual(found, [3] if good else [-22], (prime, number))

    def test_it_tells_which_one_was(self):
        found = ask("begin 7", "besides 11", "besides 199", "besides 3", "sums", "besides 7", "sums")
        self.assertEqual(found[1:], [[3], [11], [199], [7, 1, 3, 0, 0, 2, 3], [-22], [7, 1, 3, 0, 0, 2, 3]])

    def test_the_same_again_changes_nothing(self):
        self.assertEqual(ask("begin 7", "besides 3", "past")[1:], [[3], [0]])


def by_each(prime, calls):
    """Each call on a house of its own, by begins within few lists."""
    found = []
    for at in range(0, len(calls), 40):
        asked = []
        for call in calls[at:at + 40]:
            asked += [f"begin {prime}", call]
        found += ask(*asked)[1::2]
    return found


class Points(unittest.TestCase):
    def test_stayat(self):
        found = ask("begin 7", "stayat 0", *keeping(5, 0, 2), "stayat 0", "stand", "stayat 1", "stand",
                    "stayat 2", "stayat 3", f"stayat {GREATEST}", "stand")
        self.assertEqual(found[1], [-2])
        self.assertEqual(found[8:], [[5], [5, 2], [0], [0, 0], [2], [-2], [-2], [2, 1]])

    def test_bring(self):
        found = ask("begin 7", "bring", "bring", "go 0", "bring", "go 8", "bring", "keptkinds")
        self.assertEqual(found[1:], [[1], [-17], [0], [2], [1], [-17], [2, 1, 1, 0]])

    def test_twelve_are_kept_at_most(self):
        found = ask("begin 13", *keeping(*range(12)), "go 12", "bring", "go 11", "bring", "keptkinds")
        self.assertEqual(found[1:25][1::2], [[n] for n in range(1, 13)])
        self.assertEqual(found[25:], [[12], [-28], [11], [-17], [12, 1, 5, 6]])

    def test_keptkinds(self):
        self.assertEqual(last("begin 7", "keptkinds"), [0, 0, 0, 0])
        self.assertEqual(last("begin 7", *keeping(0), "keptkinds"), [1, 1, 0, 0])
        self.assertEqual(last("begin 7", *keeping(6, 1, 5, 3), "keptkinds"), [4, 0, 1, 3])
        self.assertEqual(last("begin 5", *keeping(4, 3, 2, 1, 0), "keptkinds"), [5, 1, 2, 2])

    def test_wander(self):
        self.assertEqual(ask("begin 7", "wander", "stand")[1:], [[2], [2, 1]])
        self.assertEqual(last("begin 7", "go 6", "wander"), [0])
        self.assertEqual(last("begin 7", "go 0", "wander"), [1])
        # By 7 one is led 1, 2 and 4 on: past what is kept, and round.
        self.assertEqual(last("begin 7", *keeping(2), "go 1", "wander"), [3])
        self.assertEqual(last("begin 7", *keeping(2, 3), "go 1", "wander"), [5])
        self.assertEqual(last("begin 7", *keeping(0, 1), "go 6", "wander"), [3])
        # By 5 it's 1 and 4: the greater step comes round to the point ahead.
        self.assertEqual(last("begin 5", *keeping(3), "go 2", "wander"), [1])

    def test_wandering_where_all_is_kept(self):
        self.assertEqual(ask("begin 5", *keeping(0, 2), "go 1", "wander", "stand", "past")[-3:], [[-33], [1, 1], [5]])
        self.assertEqual(last("begin 7", *keeping(0, 1, 2, 3, 4, 5, 6), "wander"), [-33])
        self.assertEqual(last("begin 23", *keeping(1, 2, 3, 4, 6, 8, 9, 12, 13, 16, 18), "go 0", "wander"), [-33])

    def test_from_here(self):
        self.assertEqual(last("begin 7", "from_here"), [0, 0])
        # From 0 by 7 one is led to 1, 2, 4; 6, 5, 3 lead to it; itself is neither.
        self.assertEqual(last("begin 7", *keeping(1, 2, 6, 0), "from_here"), [2, 1])
        self.assertEqual(last("begin 7", *keeping(3, 5, 6, 0), "from_here"), [0, 3])
        self.assertEqual(last("begin 13", *keeping(1, 2, 3, 12, 0), "from_here"), [3, 3])

    def test_from_here_each_leads_one_way_or_both(self):
        for prime in HOUSE_PRIMES:
            points = list(range(prime))[-12:]
            found = ask(f"begin {prime}", *keeping(*points), f"go {prime // 2}", "from_here", "stand")[-2]
            others = len([point for point in points if point != prime // 2])
            if prime % 4 == 1:
                self.assertEqual(found[0], found[1])
            else:
                self.assertEqual(found[0] + found[1], others)


class Terms(unittest.TestCase):
    def test_termhere(self):
        found = ask("begin 7", *terms(1, 8, 6, 6), "termhere", "go 0", "termhere", "sums")
        self.assertEqual(found[2:9:2], [[0], [1], [2], [3]])
        self.assertEqual(found[9:], [[-28], [0], [-22], [7, 0, 3, 4, 0, 2, 3]])
        self.assertEqual(ask("begin 7", "go 0", "termhere", "past")[2:], [[-22], [1]])

    def test_value(self):
        self.assertEqual(last("begin 7", "value"), [0])
        self.assertEqual(last("begin 7", *keeping(3), "value"), [0])
        self.assertEqual(last("begin 7", *terms(3), "value"), [-33])
        self.assertEqual(last("begin 7", *terms(3), *keeping(2), "value"), [5])
        self.assertEqual(last("begin 7", *terms(3, 1), *keeping(2), "value"), [-33])
        # The points stand for the unknowns in the order in which they came: 3 times 16, and 1 times 4.
        self.assertEqual(last("begin 7", *terms(3, 1), *keeping(4, 2, 5), "value"), [3])

    def test_four_terms_and_too_few_points(self):
        four = ["begin 97", *terms(96, 5, 10, 20)]
        self.assertEqual(last(*four, *keeping(1, 2, 3), "value"), [-33])
        self.assertEqual(last(*four, *keeping(1, 2, 3, 96), "value"), [(96 + 20 + 90 + 20) % 97])
        self.assertEqual(last(*four, *keeping(1, 2, 3, 96, 7), "value"), [(96 + 20 + 90 + 20) % 97])

    def test_foretold_by_hand(self):
        self.assertEqual([last("begin 7", f"foretold {c}") for c in (0, 7, 1, 6)], [[1], [1], [0], [0]])
        one = ["begin 7", *terms(3)]
        self.assertEqual(each(one, [f"foretold {c}" for c in range(8)]), [[1], [0], [0], [2], [0], [2], [2], [1]])
        two = ["begin 5", *terms(1, 1)]
        self.assertEqual(each(two, [f"foretold {c}" for c in range(5)]), [[9], [4], [4], [4], [4]])
        two = ["begin 7", *terms(1, 1)]
        self.assertEqual(each(two, [f"foretold {c}" for c in range(7)]), [[1]] + [[8]] * 6)

    def test_answers_are_as_many_as_foretold(self):
        for prime in HOUSE_PRIMES:
            for numbers in ([], [1], [2, 3], [3, 3], [1, 2, 3], [4, 2, 1], [1, 1, 1, 1], [1, 2, 3, 4], [3, 1, 1, 1],
                            [prime - 1], [prime - 1, 1], [prime - 1] * 3, [2, 3, prime - 1, prime - 2]):
                setup = [f"begin {prime}", *terms(*numbers)]
                asked = [f"foretold {c}" for c in range(prime + 1)] + [f"foretold {GREATEST}"]
                expected = model_answers(setup + asked)[len(setup):]
                self.assertEqual(each(setup, asked), expected, (prime, numbers))


class Ways(unittest.TestCase):
    def test_refusals(self):
        for number in (0, 7, 14, 4294967292):
            self.assertEqual(last("begin 7", f"ways {number}"), [-22])

    def test_all_six_or_none(self):
        for prime in HOUSE_PRIMES:
            squares = {x * x % prime for x in range(1, prime)}
            found = by(prime, [f"ways {a}" for a in range(1, prime)])
            self.assertEqual(found, [[6] if a in squares else [0] for a in range(1, prime)], prime)

    def test_great_numbers(self):
        # 4294967295 leaves 3 by 7, and 0 by 5 and 17.
        self.assertEqual(last("begin 7", f"ways {GREATEST}"), [0])
        self.assertEqual(last("begin 7", f"ways {GREATEST - 1}"), [6])
        self.assertEqual(last("begin 17", f"ways {GREATEST}"), [-22])


class Standing(unittest.TestCase):
    def test_by_hand(self):
        self.assertEqual(last("begin 7", "standing"), [1, 0, 0, 0])
        # 3 is the least root by 7: 3, 2, 6, 4, 5, 1 are its powers.
        self.assertEqual(last("begin 7", "go 3", "standing"), [2, 1, 1, 1])
        self.assertEqual(last("begin 7", "go 4", "standing"), [1, 0, 4, 0])
        self.assertEqual(last("begin 7", "go 6", "standing"), [2, 1, 3, 1])
        self.assertEqual(last("begin 17", "go 3", "standing"), [2, 4, 1, 1])
        self.assertEqual(last("begin 7", "go 7", "standing"), [-6])

    def test_squared(self):
        for prime in HOUSE_PRIMES:
            for a in range(1, prime):
                found = ask(f"begin {prime}", f"go {a}", "standing", "square", "standing", "sums")
                kind, tail, index, part = found[2]
                self.assertEqual(pow(found[5][6], index, prime), a)
                self.assertLess(index, prime - 1)
                self.assertEqual(part, index % 2)
                self.assertEqual(kind, part + 1)
                self.assertEqual(found[4], [1, max(tail - 1, 0), index * 2 % (prime - 1), 0])


if __name__ == "__main__":
    unittest.main()
