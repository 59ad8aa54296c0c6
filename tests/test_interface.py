"""The interface: what is handed in and given back, -11, begin, and that nothing is kept."""

import contextlib
import io
import unittest

from squarehouse.house import answers
from tests.asking import BUSY, CALLS, GREATEST, HOUSE_PRIMES, MOST_NUMBERS, ask, last, packed, sample

ANSWER_LENGTHS = {
    "sums": 7, "standing": 4, "keptkinds": 4, "three": 4, "prime": 2, "from_here": 2, "stand": 2, "part": 2,
    "run": 2, "meet": 2, "rounds": 2, "depth": 2, "fold": 2, "long": 2, "most": 2, "fewestanswers": 2, "productof": 2,
}
COUNTED = ("foldedall", "round_of", "roundby", "first", "zero", "never", "kept", "move", "timesall", "of", "common",
           "into", "who", "greatest", "roots", "members", "rowof", "table")


class Form(unittest.TestCase):
    def test_answers_stand_behind_their_counts(self):
        calls = [0, 7, 19, 37, 3, 49, 3, 24, 3, 25, 7, 4]
        told = [1, 0, 2, 1, 1, 3, 2, 2, 4, 4, 3, 3, 1, 2, 1, -22, 2, 0, 1, 7, 7, 1, 3, 0, 0, 2, 3]
        self.assertEqual(answers(calls), told)

    def test_the_calls_have_the_documents_numbers(self):
        self.assertEqual(len(CALLS), 115)
        self.assertEqual(answers([0, 7, 27, 1, 1, 2, 57, 6]), [1, 0, 1, 1, 1, 15])
        # long to dealtpairs, by 5 and 3.
        self.assertEqual(answers([0, 5, 58, 2, 59, 4, 60, 4, 2, 61, 1, 62, 1, 63]),
                         [1, 0, 2, 4, 1, 1, 2, 3, 2, 2, 3, 1, 3, 1, 5, 1, 30])
        # term to pair, then many to with_more, by 5 with the terms 1 and 3.
        self.assertEqual(answers([0, 5, 64, 2, 64, 4, 64, 1, 65, 2, 66, 1, 2, 67, 0, 1]),
                         [1, 0, 1, 0, 1, 1, 1, 2, 1, 2, 1, 1, 1, 2])
        self.assertEqual(answers([0, 5, 64, 1, 64, 3, 68, 0, 69, 4, 70, 3, 71, 72, 73, 74, 1, 75, 76,
                                  77, 1, 1, 1, 1, 78, 79, 1, 0]),
                         [1, 0, 1, 0, 1, 1, 1, 1, 1, 4, 3, 2, 0, 1, 1, -33, 1, 0, 4, 0, 1, 6, 6, 1, 12, 2, 6, 1,
                          2, 1, 0, 1, 4, 2, 3, 2, 1, 25])
        # put to grow, then leads to steps, by 5.
        self.assertEqual(answers([0, 5, 80, 3, 80, 4, 81, 4, 82, 83, 3, 84, 2, 85]),
                         [1, 0, 1, 1, 1, 2, 1, 1, 2, 1, 3, 2, 1, 1, 2, 1, 2, 1, 1])
        self.assertEqual(answers([0, 5, 86, 0, 1, 87, 1, 88, 0, 2, 89, 1, 4, 90, 0, 91, 2, 80, 1, 92, 93, 94, 95,
                                  96, 0, 3]),
                         [1, 0, 1, 1, 3, 2, 0, 2, 2, 1, 1, 2, 1, 0, 1, 0, 1, 1, 1, 1, 3, 2, 0, 2, 1, 0, 1, 1,
                          3, 2, 0, 1, 1, 2])
        # split to power, then members to opposite, by 5 with two classes, 1, 4 and 2, 3.
        self.assertEqual(answers([0, 5, 97, 4, 98, 3, 99, 100, 101, 2, 102, 4, 103, 3]),
                         [1, 0, 1, 1, 1, 3, 1, 2, 3, 2, 2, 3, 1, 3, 1, 2, 1, 2])
        self.assertEqual(answers([0, 5, 104, 1, 105, 1, 106, 0, 1, 107, 1, 108, 109, 0, 2, 110, 0, 111, 0, 112, 1,
                                  113, 0, 2, 114, 0]),
                         [1, 0, 3, 2, 2, 3, 1, 2, 1, 1, 3, 2, 1, 1, 5, 4, 0, 1, 1, 1, 1, 1, 1, 0, 1, 0, 1, 5,
                          1, 1, 1, 0])

    def test_as_many_numbers_as_told(self):
        for name, arity in CALLS:
            if name == "begin":
                continue
            with self.subTest(name):
                found = last(*BUSY, sample(name))
                self.assertGreaterEqual(found[0], 0)
                if name in COUNTED:
                    self.assertEqual(len(found), found[0] + 1)
                else:
                    self.assertEqual(len(found), ANSWER_LENGTHS.get(name, 1))

    def test_a_refusal_is_its_number_alone(self):
        for call in ("prime 9", "part 0", "run 3", "meet 7 1", "fold 1 0", "foldedall 7", "round_of 0", "long 0",
                     "roundby 1 0", "timesall 0", "common 1 1", "into 2 2"):
            with self.subTest(call):
                self.assertEqual(last("begin 7", call), [-22])
        for call in ("first 1", "zero", "greatest"):
            with self.subTest(call):
                self.assertEqual(last("begin 7", call), [-33])
        for call in ("of 7", "common 7 1", "into 1 7", "members 2", "rowof 2"):
            with self.subTest(call):
                self.assertEqual(last("begin 7", call), [-2])

    def test_a_whole_list_of_plain_whole_numbers(self):
        for number, (name, arity) in enumerate(CALLS):
            for number_given in (0, 1, 2, 6, 7, GREATEST):
                found = answers([0, 7, number] + [number_given] * arity)
                self.assertIs(type(found), list)
                self.assertEqual({type(one) for one in found}, {int})

    def test_eighty_calls_and_four_hundred_numbers(self):
        self.assertEqual(len(ask("begin 97", *["stand"] * 79)), 80)
        self.assertEqual(len(ask("begin 97", *["threes 1 2 1"] * 79)), 80)
        calls = ["begin 97", "sums"] + ["worth 1 2 3 4"] * 78
        self.assertLessEqual(len(packed(calls)), MOST_NUMBERS)
        self.assertEqual(ask(*calls)[2:], [[0]] * 78)

    def test_any_call_may_be_first_and_the_only_one(self):
        self.assertEqual(answers([0, 5]), [1, 0])
        self.assertEqual(answers([0, 4]), [1, -22])
        self.assertEqual(answers([57, 2]), [1, -11])
        self.assertEqual(answers([114, 0]), [1, -11])
        self.assertEqual(answers([77, 1, 2, 3, 4]), [1, -11])

    def test_only_the_second_number_of_part_may_be_below_0(self):
        for name, arity in CALLS:
            if name not in ("begin", "undo", "part"):
                self.assertGreaterEqual(min(last(*BUSY, sample(name))), 0)
        self.assertEqual(last("begin 43", "part 5"), [0, -2])


class Kept(unittest.TestCase):
    CALLS = [0, 13, 16, 6, 7, 8, 1, 7, 5, 19, 17, 1, 32, 46, 2, 3, 4, 15, 37, 5, 49, 2, 64, 3, 66, 0, 2, 67, 0, 1,
             65, 0, 80, 4, 83, 2, 84, 3, 85, 81, 6, 82, 97, 3, 98, 5, 70, 1, 72, 92, 95, 100, 108, 2, 2, 4]

    def test_the_list_is_the_same_afterwards(self):
        handed = list(self.CALLS)
        answers(handed)
        self.assertEqual(handed, self.CALLS)

    def test_asking_twice_gives_the_same(self):
        found = answers(list(self.CALLS))
        self.assertEqual(answers(list(self.CALLS)), found)

    def test_each_list_has_an_object_of_its_own(self):
        answers(list(self.CALLS))
        self.assertEqual(answers([4]), [1, -11])
        self.assertEqual(answers([0, 7, 4, 3]), [1, 0, 7, 7, 1, 3, 0, 0, 2, 3, 1, 0])

    def test_what_is_given_back_can_be_changed(self):
        answers([0, 7, 37, 3]).clear()
        self.assertEqual(answers([0, 7, 37, 3]), [1, 0, 3, 2, 2, 4])

    def test_nothing_is_printed(self):
        told = io.StringIO()
        with contextlib.redirect_stdout(told), contextlib.redirect_stderr(told):
            answers(list(self.CALLS))
        self.assertEqual(told.getvalue(), "")


class Begin(unittest.TestCase):
    def test_each_call_before_a_begin(self):
        for name, arity in CALLS:
            if name == "begin":
                continue
            for number in ("0", "1", str(GREATEST)):
                with self.subTest(name, number=number):
                    call = " ".join([name] + [number] * arity)
                    self.assertEqual(ask(call), [[-11]])
                    self.assertEqual(ask("begin 9", call, "begin 5", call)[:3], [[-22], [-11], [0]])
                    self.assertNotEqual(last("begin 5", call), [-11])

    def test_which_primes_begin(self):
        for number in list(range(0, 220)) + [221, 499, 1009, 65537, 4294967291, GREATEST]:
            expected = 0 if number in HOUSE_PRIMES else -22
            with self.subTest(number):
                self.assertEqual(ask(f"begin {number}"), [[expected]])

    def test_a_new_house(self):
        for prime in HOUSE_PRIMES:
            found = ask(f"begin {prime}", "sums", "past", "undo", "keptkinds", "foretold 0", "stand")
            self.assertEqual(found[1][:6], [prime, 1, 3, 0, 0, 2])
            self.assertEqual(found[2:], [[0], [-6], [0, 0, 0, 0], [1], [1, 1]])

    def test_the_least_root(self):
        roots = {5: 2, 7: 3, 11: 2, 13: 2, 17: 3, 23: 5, 31: 3, 41: 6, 43: 3, 71: 7, 73: 5, 97: 5}
        for prime, root in roots.items():
            self.assertEqual(last(f"begin {prime}", "sums")[6], root)

    def test_a_begin_behind_a_begin(self):
        busy = ["begin 13", "go 5", "bring", "termhere", "besides 11", "prime 17"]
        found = ask(*busy, "begin 7", "sums", "past", "undo")
        self.assertEqual(found[6:], [[0], [7, 1, 3, 0, 0, 2, 3], [0], [-6]])

    def test_a_begin_with_the_same_prime_is_new_too(self):
        found = ask("begin 13", "go 5", "bring", "begin 13", "sums", "past")
        self.assertEqual(found[4:], [[13, 1, 3, 0, 0, 2, 2], [0]])

    def test_a_refused_begin_changes_nothing(self):
        busy = ["begin 13", "go 5", "bring", "termhere", "besides 11"]
        for number in (0, 1, 2, 3, 4, 9, 91, 98, 99, 101, GREATEST):
            found = ask(*busy, "sums", "past", f"begin {number}", "sums", "past", "undo", "sums")
            self.assertEqual(found[5:], [
                [13, 5, 11, 1, 1, 2, 2], [4], [-22], [13, 5, 11, 1, 1, 2, 2], [4], [3],
                [13, 5, 3, 1, 1, 2, 2],
            ])


if __name__ == "__main__":
    unittest.main()
