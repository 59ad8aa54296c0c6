"""The interface: what is handed in and given back, -11, begin, and that nothing is kept."""

import contextlib
import io
import unittest

from squarehouse.house import answers
from tests.asking import ARITIES, CALLS, GREATEST, HOUSE_PRIMES, ask, last

ANSWER_LENGTHS = {
    "sums": 7, "standing": 4, "keptkinds": 4, "prime": 2, "from_here": 2, "stand": 2, "part": 2,
    "run": 2, "meet": 2, "rounds": 2, "depth": 2, "fold": 2,
}
COUNTED = ("foldedall", "round_of")
GOOD_NUMBERS = {"prime": "11", "besides": "5", "stayat": "0", "nth": "1 0"}


def sample(name):
    return f"{name} {GOOD_NUMBERS.get(name, ' '.join(['1'] * ARITIES[name]))}".strip()


class Form(unittest.TestCase):
    def test_answers_stand_behind_their_counts(self):
        calls = [0, 7, 19, 37, 3, 49, 3, 24, 3, 25, 7, 4]
        told = [1, 0, 2, 1, 1, 3, 2, 2, 4, 4, 3, 3, 1, 2, 1, -22, 2, 0, 1, 7, 7, 1, 3, 0, 0, 2, 3]
        self.assertEqual(answers(calls), told)

    def test_the_calls_have_the_documents_numbers(self):
        self.assertEqual(len(CALLS), 58)
        self.assertEqual(answers([0, 7, 27, 1, 1, 2, 57, 6]), [1, 0, 1, 1, 1, 15])

    def test_as_many_numbers_as_told(self):
        for name, arity in CALLS:
            if name == "begin":
                continue
            with self.subTest(name):
                found = last("begin 7", "go 3", "bring", "go 1", sample(name))
                self.assertGreaterEqual(found[0], 0)
                if name in COUNTED:
                    self.assertEqual(len(found), found[0] + 1)
                else:
                    self.assertEqual(len(found), ANSWER_LENGTHS.get(name, 1))

    def test_a_refusal_is_its_number_alone(self):
        for call in ("prime 9", "part 0", "run 3", "meet 7 1", "fold 1 0", "foldedall 7", "round_of 0"):
            with self.subTest(call):
                self.assertEqual(last("begin 7", call), [-22])

    def test_a_whole_list_of_plain_whole_numbers(self):
        for number, (name, arity) in enumerate(CALLS):
            for number_given in (0, 1, 2, 6, 7, GREATEST):
                found = answers([0, 7, number] + [number_given] * arity)
                self.assertIs(type(found), list)
                self.assertEqual({type(one) for one in found}, {int})

    def test_eighty_calls_and_four_hundred_numbers(self):
        self.assertEqual(len(ask("begin 97", *["stand"] * 79)), 80)
        self.assertEqual(len(ask("begin 97", *["threes 1 2 1"] * 79)), 80)

    def test_any_call_may_be_first_and_the_only_one(self):
        self.assertEqual(answers([0, 5]), [1, 0])
        self.assertEqual(answers([0, 4]), [1, -22])
        self.assertEqual(answers([57, 2]), [1, -11])


class Kept(unittest.TestCase):
    CALLS = [0, 13, 16, 6, 7, 8, 1, 7, 5, 19, 17, 1, 32, 46, 2, 3, 4, 15, 37, 5, 49, 2]

    def test_the_list_is_the_same_afterwards(self):
        handed = list(self.CALLS)
        answers(handed)
        self.assertEqual(handed, self.CALLS)

    def test_asking_twice_gives_the_same(self):
        found = answers(list(self.CALLS))
        self.assertEqual(answers(list(self.CALLS)), found)

    def test_each_list_has_an_object_of_its_own(self):
        answers(list(self.CALLS))
        self.assertEqual(answers([4]), [1, -11])
        self.assertEqual(answers([0, 7, 4, 3]), [1, 0, 7, 7, 1, 3, 0, 0, 2, 3, 1, 0])

    def test_what_is_given_back_can_be_changed(self):
        answers([0, 7, 37, 3]).clear()
        self.assertEqual(answers([0, 7, 37, 3]), [1, 0, 3, 2, 2, 4])

    def test_nothing_is_printed(self):
        told = io.StringIO()
        with contextlib.redirect_stdout(told), contextlib.redirect_stderr(told):
            answers(list(self.CALLS))
        self.assertEqual(told.getvalue(), "")


class Begin(unittest.TestCase):
    def test_each_call_before_a_begin(self):
        for name, arity in CALLS:
            if name == "begin":
                continue
            for number in ("0", "1", str(GREATEST)):
                with self.subTest(name, number=number):
                    call = " ".join([name] + [number] * arity)
                    self.assertEqual(ask(call), [[-11]])
                    self.assertEqual(ask("begin 9", call, "begin 5", call)[:3], [[-22], [-11], [0]])
                    self.assertNotEqual(last("begin 5", call), [-11])

    def test_which_primes_begin(self):
        for number in list(range(0, 220)) + [221, 499, 1009, 65537, 4294967291, GREATEST]:
            expected = 0 if number in HOUSE_PRIMES else -22
            with self.subTest(number):
                self.assertEqual(ask(f"begin {number}"), [[expected]])

    def test_a_new_house(self):
        for prime in HOUSE_PRIMES:
            found = ask(f"begin {prime}", "sums", "past", "undo", "keptkinds", "foretold 0", "stand")
            self.assertEqual(found[1][:6], [prime, 1, 3, 0, 0, 2])
            self.assertEqual(found[2:], [[0], [-6], [0, 0, 0, 0], [1], [1, 1]])

    def test_the_least_root(self):
        roots = {5: 2, 7: 3, 11: 2, 13: 2, 17: 3, 23: 5, 31: 3, 41: 6, 43: 3, 71: 7, 73: 5, 97: 5}
        for prime, root in roots.items():
            self.assertEqual(last(f"begin {prime}", "sums")[6], root)

    def test_a_begin_behind_a_begin(self):
        busy = ["begin 13", "go 5", "bring", "termhere", "besides 11", "prime 17"]
        found = ask(*busy, "begin 7", "sums", "past", "undo")
        self.assertEqual(found[6:], [[0], [7, 1, 3, 0, 0, 2, 3], [0], [-6]])

    def test_a_begin_with_the_same_prime_is_new_too(self):
        found = ask("begin 13", "go 5", "bring", "begin 13", "sums", "past")
        self.assertEqual(found[4:], [[13, 1, 3, 0, 0, 2, 2], [0]])

    def test_a_refused_begin_changes_nothing(self):
        busy = ["begin 13", "go 5", "bring", "termhere", "besides 11"]
        for number in (0, 1, 2, 3, 4, 9, 91, 98, 99, 101, GREATEST):
            found = ask(*busy, "sums", "past", f"begin {number}", "sums", "past", "undo", "sums")
            self.assertEqual(found[5:], [
                [13, 5, 11, 1, 1, 2, 2], [4], [-22], [13, 5, 11, 1, 1, 2, 2], [4], [3],
                [13, 5, 3, 1, 1, 2, 2],
            ])


if __name__ == "__main__":
    unittest.main()
