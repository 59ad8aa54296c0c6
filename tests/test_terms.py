"""The calls of "How many answers"."""

import itertools
import unittest

from tests.agreeing import agree
from tests.asking import GREATEST, HOUSE_PRIMES, ask, each, last


def terms(prime, *numbers):
    return [f"begin {prime}"] + [f"term {a}" for a in numbers]


def all_rows(prime, numbers):
    """What each row leaves, row by row in order."""
    found = []
    for row in itertools.product(range(prime), repeat=len(numbers)):
        found.append((row, sum(a * x * x for a, x in zip(numbers, row)) % prime))
    return found


def some_terms(prime):
    return ([], [1], [2], [prime - 1], [1, 1], [1, 2], [3, prime - 1], [1, 1, 1], [2, 3, prime - 2], [1, 1, 1, 1],
            [1, 2, 3, 4], [3, 1, prime - 1, 2])


def some_lefts(prime):
    return [c for c in range(prime) if prime < 20 or prime == 97 or c < 4 or c % 7 == 5 or c == prime - 1]


def telling(prime):
    numbers = [0, 1, 2, prime // 2, prime - 1, prime, GREATEST]
    calls = [f"{name} {c}" for name in ("many", "full", "first") for c in numbers]
    calls += ["zero", "never", "three", "most", "fewestanswers", "productof", "ofkind 1", "ofkind 2"]
    calls += [f"with_more {a} {c}" for a in (1, prime - 1, prime, GREATEST) for c in (0, 2, GREATEST)]
    return calls + ["worth 1 2 3 4", "worth 0 0 0 0", "worth 0 0 0 1", f"worth {GREATEST} 1 {GREATEST} 1"]


class Terms(unittest.TestCase):
    def test_term(self):
        found = ask("begin 7", "term 3", "term 8", f"term {GREATEST}", "term 6", "sums", "worth 1 0 0 0",
                    "worth 0 1 0 0", "worth 0 0 1 0", "worth 0 0 0 1")
        self.assertEqual(found[1:], [[0], [1], [2], [3], [7, 1, 3, 4, 0, 2, 3], [3], [1], [3], [6]])

    def test_term_refusals(self):
        self.assertEqual(ask("begin 7", "term 0", "term 7", "term 4294967292", "sums", "past")[1:],
                         [[-22], [-22], [-22], [7, 1, 3, 0, 0, 2, 3], [0]])
        self.assertEqual(ask(*terms(7, 1, 2, 3, 4), "term 1", f"term {GREATEST}", "term 0", "term 7", "past")[5:],
                         [[-28], [-28], [-22], [-22], [4]])

    def test_term_and_termhere_are_of_one_row(self):
        found = ask("begin 7", "go 5", "termhere", "term 2", "termhere", "worth 1 0 0 0", "worth 0 1 0 0",
                    "worth 0 0 1 0")
        self.assertEqual(found[2:], [[0], [1], [2], [5], [2], [5]])

    def test_out(self):
        setup = terms(7, 1, 2, 3, 4)
        self.assertEqual(ask(*setup, "out 4", "out 1", "worth 0 1 0 0", "worth 0 0 1 0", "worth 0 0 0 1", "out 2",
                             "out 2", "out 0", "worth 1 0 0 0", "out 0", "out 0")[5:],
                         [[-2], [3], [3], [4], [0], [2], [-2], [1], [3], [0], [-2]])
        self.assertEqual(last(*setup, f"out {GREATEST}"), [-2])
        self.assertEqual(last(*setup, "out 0", "term 5"), [3])

    def test_times(self):
        # 3 times the square of 2 leaves 5 by 7, that times the square of 3 leaves 3.
        found = ask(*terms(7, 3, 1), "times 0 2", "times 0 3", "times 1 6", "times 1 1", "times 0 8",
                    f"times 1 {GREATEST}", "worth 1 0 0 0", "worth 0 1 0 0")
        self.assertEqual(found[3:], [[5], [3], [1], [1], [3], [2], [3], [2]])

    def test_times_refusals(self):
        found = ask(*terms(7, 3), "times 0 0", "times 0 7", "times 0 4294967292", "times 1 1", "times 1 0",
                    f"times {GREATEST} 7", "past", "worth 1 0 0 0")
        self.assertEqual(found[2:], [[-22], [-22], [-22], [-2], [-2], [-2], [1], [3]])

    def test_times_1_changes_nothing(self):
        self.assertEqual(ask(*terms(7, 3), "times 0 1", "times 0 6", "past")[2:], [[3], [3], [1]])

    def test_pair(self):
        found = ask(*terms(7, 3, 4, 5), "pair 0 2", "worth 1 0 0 0", "worth 0 1 0 0", "worth 0 0 1 0", "pair 1 0",
                    "worth 1 0 0 0", "worth 0 1 0 0")
        self.assertEqual(found[4:], [[1], [1], [4], [1], [4], [4], [1]])

    def test_pair_refusals(self):
        found = ask(*terms(7, 3, 4), "pair 0 0", "pair 1 1", "pair 2 2", "pair 0 2", "pair 2 0",
                    f"pair {GREATEST} {GREATEST}", f"pair 0 {GREATEST}", "past", "worth 1 0 0 0", "worth 0 1 0 0")
        self.assertEqual(found[3:], [[-22], [-22], [-2], [-2], [-2], [-2], [-2], [2], [3], [4]])
        self.assertEqual(ask("begin 7", "pair 0 0", "pair 0 1", "times 0 1", "out 0")[1:], [[-2]] * 4)

    def test_pair_with_1_changes_nothing(self):
        self.assertEqual(ask(*terms(7, 1, 4), "pair 0 1", "past", "pair 1 0", "past")[3:], [[4], [2], [4], [3]])


class Answers(unittest.TestCase):
    def test_no_terms(self):
        calls = ["many 0", "many 7", "many 1", "full 0", "full 1", "first 0", "first 14", "first 1", "zero", "never",
                 "three", "ofkind 1", "ofkind 2", "most", "fewestanswers", "worth 1 2 3 4", "productof"]
        self.assertEqual(each(["begin 7"], calls),
                         [[1], [1], [0], [1], [0], [0], [0], [-33], [-33], [6, 1, 2, 3, 4, 5, 6], [0, 1, 0, 0], [0],
                          [0], [1, 0], [0, 1], [0], [1, 1]])

    def test_one_term(self):
        # 3 times a square leaves 0, 3, 5, 6 by 7.
        calls = ["many 0", "many 3", "many 4", "full 0", "full 3", "first 0", "first 3", "first 5", "first 13",
                 "first 1", "zero", "never", "three", "ofkind 1", "ofkind 2", "most", "fewestanswers", "productof"]
        self.assertEqual(each(terms(7, 3), calls),
                         [[1], [2], [0], [0], [2], [1, 0], [1, 1], [1, 2], [1, 3], [-33], [-33], [3, 1, 2, 4],
                          [0, 1, 0, 2], [0], [6], [2, 3], [0, 1], [3, 2]])

    def test_two_terms(self):
        # By 5 the squares of 1 and 2 together leave 0.
        calls = ["many 0", "many 1", "full 0", "full 1", "full 2", "first 0", "first 3", "zero", "never", "three",
                 "ofkind 1", "ofkind 2", "most", "fewestanswers", "productof"]
        self.assertEqual(each(terms(5, 1, 1), calls),
                         [[9], [4], [8], [0], [4], [2, 0, 0], [2, 2, 2], [2, 1, 2], [0], [0, 9, 4, 4], [8], [8],
                          [9, 0], [4, 1], [1, 1]])

    def test_two_terms_without_another_answer_to_0(self):
        calls = ["many 0", "zero", "first 0", "most", "fewestanswers", "never", "full 0", "ofkind 1", "ofkind 2"]
        self.assertEqual(each(terms(7, 1, 1), calls),
                         [[1], [-33], [2, 0, 0], [8, 1], [1, 0], [0], [0], [24], [24]])

    def test_three_and_four_terms(self):
        self.assertEqual(each(terms(5, 1, 1, 1), ["many 0", "zero", "first 0", "first 4", "never"]),
                         [[25], [3, 0, 1, 2], [3, 0, 0, 0], [3, 0, 0, 2], [0]])
        self.assertEqual(each(terms(7, 1, 1, 1), ["zero", "first 3", "first 6"]),
                         [[3, 1, 2, 3], [3, 0, 1, 3], [3, 0, 2, 3]])
        self.assertEqual(each(terms(7, 1, 1, 1, 1), ["zero", "many 0", "many 1", "first 0"]),
                         [[4, 0, 1, 2, 3], [7 ** 3 + 7 * 6], [7 ** 3 - 7], [4, 0, 0, 0, 0]])

    def test_worth(self):
        setup = terms(7, 3, 1)
        # 3 times 4, and 9; what's beyond the terms counts for nothing.
        self.assertEqual(each(setup, ["worth 2 3 0 0", "worth 2 3 6 5", f"worth 9 10 {GREATEST} {GREATEST}",
                                      f"worth {GREATEST} 0 0 0", "worth 0 0 1 1"]), [[0], [0], [0], [6], [0]])

    def test_productof(self):
        self.assertEqual(last(*terms(7, 3, 5), "productof"), [1, 1])
        self.assertEqual(last(*terms(7, 3, 4), "productof"), [5, 2])
        self.assertEqual(last(*terms(7, 6, 6, 6), "productof"), [6, 2])

    def test_ofkind_refusals(self):
        self.assertEqual(each(terms(7, 3), ["ofkind 0", "ofkind 3", f"ofkind {GREATEST}"]), [[-22]] * 3)

    def test_with_more(self):
        self.assertEqual(each(["begin 7"], ["with_more 3 0", "with_more 3 3", "with_more 10 1", "with_more 3 10",
                                            f"with_more {GREATEST} {GREATEST}"]), [[1], [2], [0], [2], [2]])
        self.assertEqual(each(terms(5, 1), ["with_more 1 0", "with_more 6 1", "with_more 2 0"]), [[9], [4], [1]])
        self.assertEqual(ask(*terms(5, 1), "with_more 1 0", "sums", "past")[3:], [[5, 1, 3, 1, 0, 2, 2], [1]])

    def test_with_more_refusals(self):
        self.assertEqual(each(terms(7, 3), ["with_more 0 1", "with_more 7 0", "with_more 4294967292 1"]), [[-22]] * 3)
        self.assertEqual(each(terms(7, 1, 1, 1, 1), ["with_more 1 0", "with_more 0 0", "with_more 7 1",
                                                     f"with_more {GREATEST} 1"]), [[-28], [-22], [-22], [-28]])

    def test_against_all_rows(self):
        for prime in (5, 7, 11, 13):
            for numbers in some_terms(prime):
                rows = all_rows(prime, numbers)
                setup = terms(prime, *numbers)
                many = each(setup, [f"many {c}" for c in range(prime)])
                full = each(setup, [f"full {c}" for c in range(prime)])
                first = each(setup, [f"first {c}" for c in range(prime)])
                for c in range(prime):
                    those = [row for row, left in rows if left == c]
                    self.assertEqual(many[c], [len(those)])
                    self.assertEqual(full[c], [len([row for row in those if 0 not in row])])
                    self.assertEqual(first[c], [len(numbers), *those[0]] if those else [-33])
                others = [row for row, left in rows if left == 0 and any(row)]
                self.assertEqual(last(*setup, "zero"), [len(numbers), *others[0]] if others else [-33])

    def test_against_the_model(self):
        for prime in HOUSE_PRIMES:
            for numbers in some_terms(prime):
                agree(self, terms(prime, *numbers), telling(prime))


class Holds(unittest.TestCase):
    def test_as_many_as_foretold(self):
        for prime in HOUSE_PRIMES:
            for numbers in some_terms(prime):
                setup = terms(prime, *numbers)
                asked = some_lefts(prime) + [GREATEST]
                self.assertEqual(each(setup, [f"many {c}" for c in asked]),
                                 each(setup, [f"foretold {c}" for c in asked]), (prime, numbers))

    def test_with_more_is_as_many_as_foretold_then(self):
        for prime in HOUSE_PRIMES:
            for numbers in some_terms(prime):
                if len(numbers) < 4:
                    found = each(terms(prime, *numbers), [f"with_more 3 {c}" for c in some_lefts(prime)])
                    grown = each(terms(prime, *numbers, 3), [f"foretold {c}" for c in some_lefts(prime)])
                    self.assertEqual(found, grown)

    def test_all_rows_are_answers_to_something(self):
        for prime in HOUSE_PRIMES:
            for numbers in some_terms(prime):
                zero, squares, others = each(terms(prime, *numbers), ["many 0", "ofkind 1", "ofkind 2"])
                self.assertEqual(zero[0] + squares[0] + others[0], prime ** len(numbers))
                if prime < 40:
                    found = each(terms(prime, *numbers), [f"full {c}" for c in range(prime)])
                    self.assertEqual(sum(one[0] for one in found), (prime - 1) ** len(numbers))

    def test_who_is_never_left(self):
        for prime in HOUSE_PRIMES:
            for numbers in some_terms(prime):
                never, zero = each(terms(prime, *numbers), ["never", "zero"])
                self.assertEqual(never[0], {0: prime - 1, 1: prime // 2}.get(len(numbers), 0))
                if len(numbers) > 2:
                    self.assertEqual(zero[0], len(numbers))

    def test_times_and_paired_answers_are_as_many(self):
        for prime in HOUSE_PRIMES:
            for numbers in some_terms(prime):
                if len(numbers) > 1:
                    calls = ["three", "most", "fewestanswers", "never", "many 3", "many 5"]
                    setup = terms(prime, *numbers)
                    before = each(setup, calls)
                    self.assertEqual(each(setup + ["times 1 3", "times 0 2"], calls), before)
                    self.assertEqual(each(setup + ["pair 0 1"], calls), before)
                    self.assertEqual(each(setup + ["pair 1 0"], calls), before)

    def test_a_row_that_is_told_is_an_answer(self):
        for prime in HOUSE_PRIMES:
            for numbers in some_terms(prime):
                setup = terms(prime, *numbers)
                asked = some_lefts(prime) if prime < 40 else [0, 1, 2, prime - 1]
                for c, one in zip(asked, each(setup, [f"first {c}" for c in asked])):
                    if one != [-33]:
                        row = (one[1:] + [0] * 4)[:4]
                        self.assertEqual(last(*setup, "worth " + " ".join(map(str, row))), [c])

    def test_kept_points_as_unknowns(self):
        for prime in HOUSE_PRIMES[2:]:
            setup = terms(prime, 1, 2, 3, 4) + [f"put {x}" for x in (5, 0, 3, 4, 1)]
            value, worth = each(setup, ["value", "worth 5 0 3 4"])
            self.assertEqual(value, worth)


if __name__ == "__main__":
    unittest.main()
