"""The calls of "Differences as often"."""

import itertools
import unittest

from tests.agreeing import agree
from tests.asking import GREATEST, HOUSE_PRIMES, ask, by, last

BOTH_WAYS = [prime for prime in HOUSE_PRIMES if prime % 4 == 1]
ONE_WAY = [prime for prime in HOUSE_PRIMES if prime % 4 == 3]


def keeping(prime, *points):
    return [f"begin {prime}"] + [f"put {x}" for x in points]


def squares(prime):
    return {x * x % prime for x in range(1, prime)}


class Kept(unittest.TestCase):
    def test_put(self):
        found = ask("begin 7", "put 5", "put 0", "put 6", "kept", "put 5", "put 7", f"put {GREATEST}", "kept")
        self.assertEqual(found[1:], [[1], [2], [3], [3, 5, 0, 6], [-17], [-2], [-2], [3, 5, 0, 6]])

    def test_twelve_kept(self):
        setup = keeping(13, *range(12))
        self.assertEqual(ask(*setup, "put 12", "put 11", "put 0", "put 13", f"put {GREATEST}", "grow", "kept")[13:],
                         [[-28], [-17], [-17], [-2], [-2], [-28], [12, *range(12)]])
        self.assertEqual(ask(*setup, "take 3", "put 12", "put 3", "kept")[13:],
                         [[11], [12], [-28], [12, 0, 1, 2, 4, 5, 6, 7, 8, 9, 10, 11, 12]])

    def test_bring_and_put_keep_the_same(self):
        self.assertEqual(ask("begin 7", "put 1", "bring", "go 4", "bring", "put 4", "kept")[1:],
                         [[1], [-17], [4], [2], [-17], [2, 1, 4]])

    def test_take(self):
        found = ask(*keeping(7, 5, 0, 6), "take 1", "take 7", f"take {GREATEST}", "take 0", "kept", "take 0", "take 5",
                    "take 6", "kept", "take 6")
        self.assertEqual(found[4:], [[-2], [-2], [-2], [2], [2, 5, 6], [-2], [1], [0], [0], [-2]])

    def test_taken_and_put_again_it_is_the_last(self):
        self.assertEqual(ask(*keeping(7, 5, 0, 6), "take 5", "put 5", "kept")[4:], [[2], [3], [3, 0, 6, 5]])

    def test_kept_is_in_the_order_in_which_they_came(self):
        self.assertEqual(last("begin 7", "kept"), [0])
        self.assertEqual(last(*keeping(7, 6, 2, 4, 0), "kept"), [4, 6, 2, 4, 0])

    def test_move(self):
        setup = keeping(7, 5, 0, 6)
        self.assertEqual(ask(*setup, "move 2", "move 0", "move 7", "kept", "move 6", f"move {GREATEST}", "kept")[4:],
                         [[3, 0, 2, 1], [3, 0, 2, 1], [3, 0, 2, 1], [3, 0, 2, 1], [3, 6, 1, 0], [3, 2, 4, 3],
                          [3, 2, 4, 3]])
        self.assertEqual(ask("begin 7", "move 3", "past")[1:], [[0], [0]])

    def test_timesall(self):
        setup = keeping(7, 5, 0, 6)
        self.assertEqual(ask(*setup, "timesall 3", "timesall 1", "timesall 6", "timesall 8", f"timesall {GREATEST}",
                             "kept")[4:],
                         [[3, 1, 0, 4], [3, 1, 0, 4], [3, 6, 0, 3], [3, 6, 0, 3], [3, 4, 0, 2], [3, 4, 0, 2]])
        self.assertEqual(ask(*setup, "timesall 0", "timesall 7", "timesall 4294967292", "kept", "past")[4:],
                         [[-22], [-22], [-22], [3, 5, 0, 6], [3]])
        self.assertEqual(ask("begin 7", "timesall 3", "timesall 0", "past")[1:], [[0], [-22], [0]])

    def test_grow(self):
        # To 0 lead 3, 5, 6 by 7, to 3 lead 1, 2, 6, to 6 lead 2, 4, 5.
        self.assertEqual(ask("begin 7", "grow", "grow", "grow", "grow", "kept", "past")[1:],
                         [[0], [3], [6], [-33], [3, 0, 3, 6], [3]])
        self.assertEqual(ask(*keeping(5, 0), "grow", "grow", "kept")[2:], [[1], [-33], [2, 0, 1]])
        self.assertEqual(ask(*keeping(13, 1), "grow", "grow", "grow")[2:], [[0], [4], [-33]])

    def test_growing_stops_at_twelve_or_where_nobody_does(self):
        for prime in HOUSE_PRIMES:
            found = ask(f"begin {prime}", *["who", "grow"] * 13, "kept")
            kept = []
            for who, grew in zip(found[1:27:2], found[2:27:2]):
                those = [x for x in range(prime) if x not in kept
                         and all((y - x) % prime in squares(prime) for y in kept)]
                self.assertEqual(who, [len(those), *those])
                self.assertEqual(grew, those[:1] or [-33])
                kept += those[:1]
            self.assertEqual(found[27], [len(kept), *kept])


class Leading(unittest.TestCase):
    def test_leads(self):
        self.assertEqual(by(7, [f"leads 0 {y}" for y in range(1, 8)]), [[1], [1], [0], [1], [0], [0], [-2]])
        self.assertEqual(by(7, ["leads 1 0", "leads 6 0", "leads 5 0", "leads 3 5"]), [[0], [1], [1], [1]])
        self.assertEqual(by(5, ["leads 0 1", "leads 1 0", "leads 0 2", "leads 4 0"]), [[1], [1], [0], [1]])

    def test_refusals_of_two_points(self):
        for name in ("leads", "common", "into"):
            calls = [f"{name} 0 0", f"{name} 6 6", f"{name} 7 0", f"{name} 0 7", f"{name} 7 7", f"{name} {GREATEST} 1",
                     f"{name} 1 {GREATEST}", f"{name} {GREATEST} {GREATEST}"]
            self.assertEqual(by(7, calls), [[-22]] * 2 + [[-2]] * 6)

    def test_of(self):
        self.assertEqual(by(7, ["of 0", "of 3", "of 6", "of 7", f"of {GREATEST}"]),
                         [[3, 1, 2, 4], [3, 0, 4, 5], [3, 0, 1, 3], [-2], [-2]])
        self.assertEqual(last("begin 5", "of 2"), [2, 1, 3])

    def test_common_and_into(self):
        self.assertEqual(by(7, ["common 0 1", "common 1 0", "into 0 1", "common 0 3", "into 0 3"]),
                         [[1, 2], [1, 2], [1, 6], [1, 4], [1, 6]])
        self.assertEqual(by(5, ["common 0 1", "common 0 2", "into 0 2"]), [[0], [1, 1], [1, 1]])

    def test_threesround(self):
        self.assertEqual(by(7, ["threesround 0", "threesround 6", "threesround 7", f"threesround {GREATEST}"]),
                         [[6], [6], [-2], [-2]])
        # By 13: 0 leads to 1, 3, 4, 9, 10, 12, and of these six pairs lead to one another.
        self.assertEqual(by(13, ["threesround 0", "threesround 12"]), [[6], [6]])
        self.assertEqual(by(5, ["threesround 0", "threesround 4"]), [[0], [0]])
        self.assertEqual(by(17, ["threesround 0"]), [[12]])

    def test_steps(self):
        self.assertEqual(by(7, [f"steps 0 {y}" for y in range(8)]), [[0], [1], [1], [2], [1], [2], [2], [-2]])
        self.assertEqual(by(5, ["steps 0 2", "steps 2 0", "steps 4 0", "steps 3 3"]), [[2], [2], [1], [0]])
        self.assertEqual(by(7, ["steps 7 0", "steps 7 7", f"steps {GREATEST} 0", f"steps 0 {GREATEST}"]), [[-2]] * 4)

    def test_differ(self):
        # By 7 squares leave 1, 2, 4; by 13 they leave 1, 3, 4, 9, 10, 12.
        self.assertEqual(by(7, [f"differ {d}" for d in range(9)]), [[-22]] + [[1]] * 6 + [[-22], [1]])
        self.assertEqual(by(13, [f"differ {d}" for d in range(1, 7)]), [[2], [3], [2], [2], [3], [3]])
        self.assertEqual(by(5, ["differ 1", "differ 2", "differ 4"]), [[0], [1], [0]])
        self.assertEqual(by(7, [f"differ {GREATEST}", "differ 4294967292"]), [[1], [-22]])

    def test_all_points(self):
        for prime in HOUSE_PRIMES:
            edges = sorted({0, 1, prime // 2, prime - 1, prime})
            calls = [f"of {x}" for x in range(prime + 1)] + [f"differ {d}" for d in range(prime + 2)]
            calls += [f"threesround {x}" for x in edges]
            for name in ("leads", "common", "into", "steps"):
                calls += [f"{name} {x} {y}" for x in edges for y in range(prime + 1)]
            agree(self, [f"begin {prime}"], calls)


class Groups(unittest.TestCase):
    def test_who(self):
        self.assertEqual(last("begin 7", "who"), [7, *range(7)])
        self.assertEqual(last(*keeping(7, 1), "who"), [3, 0, 4, 6])
        self.assertEqual(last(*keeping(7, 1, 0), "who"), [1, 6])
        self.assertEqual(last(*keeping(7, 1, 0, 6), "who"), [0])
        self.assertEqual(last(*keeping(5, 0, 2), "who"), [1, 1])

    def test_inner(self):
        self.assertEqual(last("begin 7", "inner"), [0])
        self.assertEqual(last(*keeping(7, 4), "inner"), [0])
        self.assertEqual(last(*keeping(7, 4, 0, 5), "inner"), [3])
        # By 5 there's a ring of five.
        self.assertEqual(last(*keeping(5, 0, 1, 2), "inner"), [2])
        self.assertEqual(last(*keeping(5, 4, 2, 0, 1, 3), "inner"), [5])

    def test_group(self):
        self.assertEqual(last("begin 7", "group"), [1])
        self.assertEqual(last(*keeping(7, 4), "group"), [1])
        self.assertEqual(last(*keeping(7, 4, 5), "group"), [0])
        self.assertEqual(last(*keeping(5, 4, 0), "group"), [1])
        self.assertEqual(last(*keeping(5, 4, 0, 1), "group"), [0])
        self.assertEqual(last(*keeping(13, 4, 0, 1), "group"), [1])
        self.assertEqual(last(*keeping(13, 4, 0, 1, 2), "group"), [0])

    def test_greatest(self):
        groups = {5: [0, 1], 13: [0, 1, 4], 17: [0, 1, 2], 29: [0, 1, 5, 6], 41: [0, 1, 2, 10, 33]}
        for prime, group in groups.items():
            self.assertEqual(last(f"begin {prime}", "greatest"), [len(group), *group])
        for prime in ONE_WAY:
            self.assertEqual(last(f"begin {prime}", "greatest"), [-33])

    def test_greatest_hangs_on_the_prime_alone(self):
        self.assertEqual(last(*keeping(13, 5, 6, 7), "go 3", "greatest"), [3, 0, 1, 4])

    def test_no_group_is_greater_or_comes_before(self):
        for prime in BOTH_WAYS:
            found = last(f"begin {prime}", "greatest")
            many, group = found[0], found[1:]
            self.assertEqual((many, group[:2]), (len(group), [0, 1]))
            near = [x for x in range(2, prime) if {x, x - 1} <= squares(prime)]

            def is_group(points):
                return all((y - x) % prime in squares(prime) for x, y in itertools.combinations(points, 2))

            greater = [rest for rest in itertools.combinations(near, many - 1) if is_group(rest)]
            same = [rest for rest in itertools.combinations(near, many - 2) if is_group(rest)]
            self.assertEqual(greater, [])
            self.assertEqual([0, 1, *same[0]], group)
            self.assertLessEqual((2 * many - 1) ** 2, 2 * prime - 1)
            self.assertEqual(last(*keeping(prime, *group), "group"), [1])

    def test_all_kept(self):
        for prime in HOUSE_PRIMES:
            kept = ([0], [prime - 1, 1], [0, 1, 2], [4, 3, 1, 0], sorted({x * x % prime for x in range(prime)})[:12],
                    list(range(prime))[-12:], list(range(0, prime, 9))[:12])
            for points in kept:
                agree(self, keeping(prime, *points), ["kept", "who", "inner", "group", "greatest"])


class Holds(unittest.TestCase):
    def test_every_difference_comes_as_often(self):
        for prime in ONE_WAY:
            self.assertEqual(by(prime, [f"differ {d}" for d in range(1, prime)]), [[(prime - 3) // 4]] * (prime - 1))
        for prime in BOTH_WAYS:
            found = by(prime, [f"differ {d}" for d in range(1, prime)])
            expected = [[(prime - 5) // 4] if d in squares(prime) else [(prime - 1) // 4] for d in range(1, prime)]
            self.assertEqual(found, expected)

    def test_any_two_lead_to_as_many_in_common(self):
        for prime in HOUSE_PRIMES:
            pairs = [(x, y) for x in (0, 3, prime - 1) for y in range(prime) if x != y]
            for name in ("common", "into"):
                found = by(prime, [f"{name} {x} {y}" for x, y in pairs])
                leads = by(prime, [f"leads {x} {y}" for x, y in pairs])
                for one, lead in zip(found, leads):
                    many = (prime - 3) // 4 if prime % 4 == 3 else (prime - 5) // 4 if lead == [1] else (prime - 1) // 4
                    self.assertEqual(one[0], many)

    def test_both_ways_or_one_way(self):
        for prime in HOUSE_PRIMES:
            pairs = [(x, y) for x in (0, 2) for y in range(prime) if x != y]
            forth = by(prime, [f"leads {x} {y}" for x, y in pairs])
            back = by(prime, [f"leads {y} {x}" for x, y in pairs])
            expected = [one if prime % 4 == 1 else [1 - one[0]] for one in forth]
            self.assertEqual(back, expected)

    def test_times_what_is_none_each_leads_where_it_did_not(self):
        for prime in HOUSE_PRIMES:
            for k in range(1, prime, 3):
                pairs = [(1, y) for y in range(prime) if y != 1]
                before = by(prime, [f"leads {x} {y}" for x, y in pairs])
                behind = by(prime, [f"leads {x * k % prime} {y * k % prime}" for x, y in pairs])
                expected = before if k in squares(prime) else [[1 - one[0]] for one in before]
                self.assertEqual(behind, expected)

    def test_moved_all_stays(self):
        for prime in HOUSE_PRIMES:
            points = list(range(0, prime, 2))[:12]
            inner, group = ask(*keeping(prime, *points), "inner", "group")[-2:]
            for t in (1, prime // 2, prime, GREATEST):
                found = ask(*keeping(prime, *points), f"move {t}", "inner", "group")
                self.assertEqual(found[-2:], [inner, group])
                self.assertEqual(found[-3], [len(points)] + [(x + t) % prime for x in points])
            least = last(f"begin {prime}", "least")[0]
            turned = ask(*keeping(prime, *points), f"timesall {least}", "inner")[-1]
            pairs = len(points) * (len(points) - 1) // 2
            self.assertEqual(turned[0], pairs - inner[0] if prime % 4 == 1 else pairs)

    def test_few_are_always_led_to_by_one(self):
        for prime in HOUSE_PRIMES:
            for y in range(1, prime):
                self.assertEqual(last(*keeping(prime, 0), "who")[0], prime // 2)
                if prime > 5:
                    self.assertGreaterEqual(last(*keeping(prime, 0, y), "who")[0], 1)

    def test_rounds_are_as_many_from_each(self):
        for prime in HOUSE_PRIMES:
            if prime % 4 == 3:
                many = prime // 2 * ((prime + 1) // 4)
            else:
                many = prime // 2 * ((prime - 5) // 4) // 2
            self.assertEqual(by(prime, [f"threesround {x}" for x in (0, 1, prime - 1)]), [[many]] * 3)


if __name__ == "__main__":
    unittest.main()
