"""Long lists of calls, made at random from written seeds, against the model."""

import random
import unittest

from squarehouse.house import answers
from tests.asking import CALLS, CHANGING, GREATEST, HOUSE_PRIMES, MOST_CALLS, MOST_NUMBERS, ODD_PRIMES, packed
from tests.asking import unpacked
from tests.model import model_answers


def some_number(dice, name):
    if name in ("begin", "prime") and dice.random() < 0.9:
        return dice.choice(HOUSE_PRIMES)
    if name == "besides" and dice.random() < 0.8:
        return dice.choice(ODD_PRIMES)
    return dice.choice((0, 1, 1, 2, 2, 3, dice.randrange(13), dice.randrange(100), dice.randrange(GREATEST + 1)))


def some_calls(dice):
    calls = [] if dice.random() < 0.1 else [f"begin {dice.choice(HOUSE_PRIMES)}"]
    while len(calls) < MOST_CALLS:
        name, arity = dice.choice(CALLS)
        if dice.random() < 0.5:
            name, arity = dice.choice([call for call in CALLS if call[0] in CHANGING + ("undo",)])
        if name == "begin" and dice.random() < 0.8:
            name, arity = "sums", 0
        calls.append(" ".join([name] + [str(some_number(dice, name)) for one in range(arity)]))
    return calls


class Whole(unittest.TestCase):
    def test_against_the_model(self):
        for seed in range(600):
            calls = some_calls(random.Random(seed))
            flat = packed(calls)
            self.assertLessEqual(len(flat), MOST_NUMBERS)
            handed = list(flat)
            found = unpacked(answers(handed))
            self.assertEqual(handed, flat)
            expected = model_answers(calls)
            for call, one, other in zip(calls, found, expected, strict=True):
                self.assertEqual(one, other, (seed, call))

    def test_the_house_stays_sound(self):
        for seed in range(200):
            calls = some_calls(random.Random(1000 + seed))[:26]
            asked = [f"begin {HOUSE_PRIMES[seed % len(HOUSE_PRIMES)]}", "sums", "kept"]
            for call in calls[1:]:
                asked += [call, "sums", "kept"]
            found = unpacked(answers(packed(asked)))
            for told, kept in zip(found[1::3], found[2::3]):
                prime, at, beside, terms, points, classes, root = told
                self.assertIn(prime, HOUSE_PRIMES)
                self.assertIn(at, range(prime))
                self.assertIn(beside, ODD_PRIMES)
                self.assertNotEqual(beside, prime)
                self.assertIn(terms, range(5))
                self.assertIn(points, range(min(12, prime) + 1))
                self.assertEqual(kept[0], points)
                self.assertEqual(len(set(kept[1:])), points)
                self.assertTrue(all(x in range(prime) for x in kept[1:]))
                self.assertIn(classes, range(2, 9))
                self.assertEqual((prime - 1) % classes, 0)
                self.assertIn(root, range(2, prime))
                self.assertEqual(len({pow(root, n, prime) for n in range(prime)}), prime - 1)


if __name__ == "__main__":
    unittest.main()
