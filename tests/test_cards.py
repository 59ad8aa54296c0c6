"""The calls of "Between two primes" from long on: rounds of multiples, exchanges, cards."""

import unittest

from tests.agreeing import agree
from tests.asking import GREATEST, HOUSE_PRIMES, ODD_PRIMES, ask, by, each, last


def beside(prime, other):
    return [f"begin {prime}", f"besides {other}"]


class Rounds(unittest.TestCase):
    def test_long(self):
        # By 7 the powers of 3 are all six, those of 2 are 2, 4, 1.
        self.assertEqual(by(7, [f"long {a}" for a in range(9)]),
                         [[-22], [1, 6], [3, 2], [6, 1], [3, 2], [6, 1], [2, 3], [-22], [1, 6]])
        # 4294967295 leaves 3 by 7.
        self.assertEqual(by(7, [f"long {GREATEST}", "long 4294967292"]), [[6, 1], [-22]])

    def test_fewest(self):
        # By 7: 3, 6, 2, 5, 1, 4 are one round of six; 6, 5, 4, 3, 2, 1 need three exchanges.
        self.assertEqual(by(7, [f"fewest {a}" for a in range(9)]),
                         [[-22], [0], [4], [5], [4], [5], [3], [-22], [0]])
        self.assertEqual(by(5, [f"fewest {a}" for a in range(1, 5)]), [[0], [3], [3], [2]])
        self.assertEqual(by(7, [f"fewest {GREATEST}", "fewest 4294967292"]), [[5], [-22]])

    def test_roundby(self):
        self.assertEqual(by(7, ["roundby 2 1", "roundby 2 3", "roundby 3 5", "roundby 1 4", "roundby 6 4"]),
                         [[3, 1, 2, 4], [3, 3, 6, 5], [6, 5, 1, 3, 2, 6, 4], [1, 4], [2, 4, 3]])
        self.assertEqual(by(7, ["roundby 9 10", f"roundby {GREATEST} 1", f"roundby 2 {GREATEST}"]),
                         [[3, 3, 6, 5], [6, 1, 3, 2, 6, 4, 5], [3, 3, 6, 5]])

    def test_roundby_refusals(self):
        self.assertEqual(by(7, ["roundby 0 1", "roundby 7 1", "roundby 1 0", "roundby 1 7", "roundby 0 0",
                                "roundby 4294967292 1", "roundby 1 4294967292"]), [[-22]] * 7)

    def test_all(self):
        for prime in HOUSE_PRIMES:
            numbers = list(range(prime + 2)) + [GREATEST, GREATEST - 1]
            calls = [f"{name} {a}" for name in ("long", "fewest") for a in numbers]
            calls += [f"roundby {a} {k}" for a in numbers for k in (0, 1, 2, prime // 2, prime - 1, prime, GREATEST)]
            agree(self, [f"begin {prime}"], calls)

    def test_rounds_take_all_in(self):
        for prime in HOUSE_PRIMES:
            for a in (1, 2, 3, prime - 1):
                length, many = last(f"begin {prime}", f"long {a}")
                self.assertEqual(length * many, prime - 1)
                rounds = by(prime, [f"roundby {a} {k}" for k in range(1, prime)])
                self.assertEqual({one[0] for one in rounds}, {length})
                self.assertEqual(len({frozenset(one[1:]) for one in rounds}), many)
                self.assertEqual(last(f"begin {prime}", f"fewest {a}"), [prime - 1 - many])

    def test_even_where_turned_ones_are(self):
        for prime in HOUSE_PRIMES:
            squares = {x * x % prime for x in range(1, prime)}
            for a, found in enumerate(by(prime, [f"fewest {a}" for a in range(1, prime)]), start=1):
                self.assertEqual(found[0] % 2 == 0, a in squares)
            for a in range(1, prime):
                found = by(prime, [f"fewest {a}", f"folds {a}", f"turnedpairs {a}"])
                self.assertEqual(len({one[0] % 2 for one in found}), 1)


class Cards(unittest.TestCase):
    def test_five_rows_of_three(self):
        taken = [0, 3, 6, 9, 12, 1, 4, 7, 10, 13, 2, 5, 8, 11, 14]
        self.assertEqual(by(5, [f"dealt {i}" for i in range(15)]), [[card] for card in taken])
        self.assertEqual(by(5, [f"dealtto {card}" for card in taken]), [[i] for i in range(15)])
        self.assertEqual(last("begin 5", "dealtpairs"), [30])

    def test_seven_rows_of_five(self):
        self.assertEqual(each(beside(7, 5), ["dealt 1", "dealt 7", "dealtto 1", "dealtto 5", "dealtpairs"]),
                         [[5], [1], [7], [1], [210]])

    def test_the_last_card(self):
        for prime in HOUSE_PRIMES:
            for other in (3, 5, 199):
                if prime != other:
                    end = prime * other
                    calls = [f"dealt {end - 1}", f"dealt {end}", f"dealtto {end - 1}", f"dealtto {end}"]
                    self.assertEqual(each(beside(prime, other), calls), [[end - 1], [-22], [end - 1], [-22]])

    def test_refusals(self):
        self.assertEqual(by(5, ["dealt 15", "dealtto 15", f"dealt {GREATEST}", f"dealtto {GREATEST}"]), [[-22]] * 4)

    def test_the_card_follows_the_prime_beside_and_the_house(self):
        self.assertEqual(ask("begin 7", "dealt 1", "nextbeside", "dealt 1", "prime 5", "dealt 1", "sums"),
                         [[0], [3], [5], [5], [0, 0], [7], [5, 1, 7, 0, 0, 2, 2]])

    def test_all_cards(self):
        for prime, other in ((5, 3), (5, 7), (7, 3), (11, 13), (13, 11), (17, 5), (5, 199)):
            cards = range(prime * other + 1)
            calls = [f"dealt {i}" for i in cards] + [f"dealtto {i}" for i in cards]
            agree(self, beside(prime, other), calls)

    def test_some_cards_of_many(self):
        for prime, other in ((97, 199), (97, 3), (89, 97), (43, 193)):
            cards = list(range(0, prime * other, 131)) + [prime, other, prime - 1, other - 1, prime * other - 2]
            calls = [f"dealt {i}" for i in cards] + [f"dealtto {i}" for i in cards]
            agree(self, beside(prime, other), calls)

    def test_taken_back_the_other_way(self):
        for prime, other in ((5, 3), (13, 17), (97, 199)):
            cards = range(0, prime * other, 17)
            forth = each(beside(prime, other), [f"dealt {i}" for i in cards])
            back = each(beside(prime, other), [f"dealtto {card[0]}" for card in forth])
            self.assertEqual(back, [[i] for i in cards])
            # The other way: rows and columns exchanged.
            if other <= 97 and other > 3:
                self.assertEqual(each(beside(other, prime), [f"dealtto {i}" for i in cards]), forth)

    def test_dealtpairs(self):
        for prime in HOUSE_PRIMES:
            for other in (3, 5, 7, 13, 29):
                if prime != other:
                    agree(self, beside(prime, other), ["dealtpairs"])
        agree(self, beside(97, 199), ["dealtpairs"])

    def test_pairs_are_odd_just_where_both_leave_3_by_four(self):
        for prime in HOUSE_PRIMES:
            for other in ODD_PRIMES:
                if prime != other:
                    found = last(*beside(prime, other), "dealtpairs")[0]
                    self.assertEqual(found % 2 == 1, prime % 4 == 3 and other % 4 == 3)


if __name__ == "__main__":
    unittest.main()
