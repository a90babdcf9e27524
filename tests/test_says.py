import contextlib
import inspect
import io
import unittest
from fractions import Fraction
from itertools import product

from helpers import LARGEST, REFUSED

from unwantedmail.desk import chance, says, told

UNWANTED = [2]
WANTED = [1]
NEITHER = [0]


class OrdinaryWords(unittest.TestCase):
    """In the remarks: (a + 1)(m + 2), and (b + 1)(n + 2)."""

    def test_unwanted(self):
        # 2 * 7 = 14, 3 * 5 = 15
        self.assertEqual(says(3, 5, 1, 2), UNWANTED)
        # 1 * 11 = 11, 10 * 11 = 110
        self.assertEqual(says(9, 9, 0, 9), UNWANTED)
        # 3 * 42 = 126, 31 * 22 = 682
        self.assertEqual(says(20, 40, 2, 30), UNWANTED)
        # 6 * 42 = 252, 11 * 102 = 1122
        self.assertEqual(says(100, 40, 5, 10), UNWANTED)

    def test_wanted(self):
        # 3 * 5 = 15, 2 * 7 = 14
        self.assertEqual(says(5, 3, 2, 1), WANTED)
        # 10 * 11 = 110, 1 * 11 = 11
        self.assertEqual(says(9, 9, 9, 0), WANTED)
        # 31 * 22 = 682, 3 * 42 = 126
        self.assertEqual(says(40, 20, 30, 2), WANTED)
        # 11 * 102 = 1122, 6 * 42 = 252
        self.assertEqual(says(40, 100, 10, 5), WANTED)

    def test_neither(self):
        # 4 * 9 = 36, 4 * 9 = 36
        self.assertEqual(says(7, 7, 3, 3), NEITHER)
        # 2 * 9 = 18, 6 * 3 = 18
        self.assertEqual(says(1, 7, 1, 5), NEITHER)
        # 6 * 3 = 18, 2 * 9 = 18
        self.assertEqual(says(7, 1, 5, 1), NEITHER)

    def test_a_word_in_more_unwanted_letters_may_say_wanted(self):
        # 3 * 42 = 126, 4 * 12 = 48
        self.assertEqual(says(10, 40, 2, 3), WANTED)
        # 4 * 12 = 48, 3 * 42 = 126
        self.assertEqual(says(40, 10, 3, 2), UNWANTED)

    def test_a_word_in_every_letter(self):
        # 3 * 6 = 18, 5 * 4 = 20
        self.assertEqual(says(2, 4, 2, 4), UNWANTED)
        # 5 * 4 = 20, 3 * 6 = 18
        self.assertEqual(says(4, 2, 4, 2), WANTED)
        # 5 * 6 = 30, 5 * 6 = 30
        self.assertEqual(says(4, 4, 4, 4), NEITHER)

    def test_small_words_as_fractions(self):
        """Every word, of up to six letters taught of each side."""
        for n, m in product(range(7), repeat=2):
            for a, b in product(range(n + 1), range(m + 1)):
                for_wanted, for_unwanted = Fraction(a + 1, n + 2), Fraction(b + 1, m + 2)
                expected = NEITHER
                if for_unwanted > for_wanted:
                    expected = UNWANTED
                if for_unwanted < for_wanted:
                    expected = WANTED
                with self.subTest(n=n, m=m, a=a, b=b):
                    self.assertEqual(says(n, m, a, b), expected)


class Corners(unittest.TestCase):

    def test_nothing_taught(self):
        # 1 * 2 = 2, 1 * 2 = 2
        self.assertEqual(says(0, 0, 0, 0), NEITHER)

    def test_nothing_taught_of_the_wanted(self):
        # 1 * 6 = 6, and 1 * 2 = 2, 2 * 2 = 4, 3 * 2 = 6, 4 * 2 = 8, 5 * 2 = 10
        self.assertEqual(says(0, 4, 0, 0), WANTED)
        self.assertEqual(says(0, 4, 0, 1), WANTED)
        self.assertEqual(says(0, 4, 0, 2), NEITHER)
        self.assertEqual(says(0, 4, 0, 3), UNWANTED)
        self.assertEqual(says(0, 4, 0, 4), UNWANTED)
        # 1 * 10002 = 10002, and 5000 * 2 = 10000, 5001 * 2 = 10002, 5002 * 2 = 10004
        self.assertEqual(says(0, 10000, 0, 4999), WANTED)
        self.assertEqual(says(0, 10000, 0, 5000), NEITHER)
        self.assertEqual(says(0, 10000, 0, 5001), UNWANTED)

    def test_nothing_taught_of_the_unwanted(self):
        # 1 * 2 = 2, 2 * 2 = 4, 3 * 2 = 6, 4 * 2 = 8, 5 * 2 = 10, and 1 * 6 = 6
        self.assertEqual(says(4, 0, 0, 0), UNWANTED)
        self.assertEqual(says(4, 0, 1, 0), UNWANTED)
        self.assertEqual(says(4, 0, 2, 0), NEITHER)
        self.assertEqual(says(4, 0, 3, 0), WANTED)
        self.assertEqual(says(4, 0, 4, 0), WANTED)
        # 5000 * 2 = 10000, 5001 * 2 = 10002, 5002 * 2 = 10004, and 1 * 10002 = 10002
        self.assertEqual(says(10000, 0, 4999, 0), UNWANTED)
        self.assertEqual(says(10000, 0, 5000, 0), NEITHER)
        self.assertEqual(says(10000, 0, 5001, 0), WANTED)

    def test_just_as_likely_with_n_and_m_alike(self):
        for taught in (0, 1, 2, 7, 100, 9999, 10000):
            for letters in {0, taught // 2, taught}:
                with self.subTest(taught=taught, letters=letters):
                    self.assertEqual(says(taught, taught, letters, letters), NEITHER)

    def test_just_as_likely_with_n_and_m_unlike(self):
        # 1 * 8 = 8, 2 * 4 = 8
        self.assertEqual(says(2, 6, 0, 1), NEITHER)
        # 3 * 8 = 24, 6 * 4 = 24
        self.assertEqual(says(2, 6, 2, 5), NEITHER)
        # 2 * 6 = 12, 3 * 4 = 12
        self.assertEqual(says(2, 4, 1, 2), NEITHER)
        # 3 * 10 = 30, 5 * 6 = 30
        self.assertEqual(says(4, 8, 2, 4), NEITHER)
        self.assertEqual(says(8, 4, 4, 2), NEITHER)
        # 5001 * 5000 = 25005000, 2500 * 10002 = 25005000
        self.assertEqual(says(10000, 4998, 5000, 2499), NEITHER)
        self.assertEqual(says(4998, 10000, 2499, 5000), NEITHER)

    def test_one_below_and_one_above_with_n_and_m_alike(self):
        # 4 * 9 = 36 of each; 27 and 36, 45 and 36, 36 and 45, 36 and 27
        self.assertEqual(says(7, 7, 3, 3), NEITHER)
        self.assertEqual(says(7, 7, 2, 3), UNWANTED)
        self.assertEqual(says(7, 7, 4, 3), WANTED)
        self.assertEqual(says(7, 7, 3, 4), UNWANTED)
        self.assertEqual(says(7, 7, 3, 2), WANTED)
        self.assertEqual(says(10000, 10000, 9999, 10000), UNWANTED)
        self.assertEqual(says(10000, 10000, 10000, 9999), WANTED)

    def test_one_below_and_one_above_with_n_and_m_unlike(self):
        # 18 of each; 9 and 18, 18 and 21, 18 and 15
        self.assertEqual(says(1, 7, 1, 5), NEITHER)
        self.assertEqual(says(1, 7, 0, 5), UNWANTED)
        self.assertEqual(says(1, 7, 1, 6), UNWANTED)
        self.assertEqual(says(1, 7, 1, 4), WANTED)
        # 18 of each; 18 and 9, 21 and 18, 15 and 18
        self.assertEqual(says(7, 1, 5, 1), NEITHER)
        self.assertEqual(says(7, 1, 5, 0), WANTED)
        self.assertEqual(says(7, 1, 6, 1), WANTED)
        self.assertEqual(says(7, 1, 4, 1), UNWANTED)

    def test_one_letter_more_or_less_taught(self):
        # 36 of each; 36 and 40, 36 and 32, 40 and 36, 32 and 36
        self.assertEqual(says(7, 7, 3, 3), NEITHER)
        self.assertEqual(says(8, 7, 3, 3), UNWANTED)
        self.assertEqual(says(6, 7, 3, 3), WANTED)
        self.assertEqual(says(7, 8, 3, 3), WANTED)
        self.assertEqual(says(7, 6, 3, 3), UNWANTED)

    def test_products_that_differ_by_one(self):
        # 2 * 7 = 14, 3 * 5 = 15
        self.assertEqual(says(3, 5, 1, 2), UNWANTED)
        self.assertEqual(says(5, 3, 2, 1), WANTED)
        # 10000 * 10002 = 100020000, 10001 * 10001 = 100020001
        self.assertEqual(says(9999, 10000, 9999, 10000), UNWANTED)
        self.assertEqual(says(10000, 9999, 10000, 9999), WANTED)
        # 1 * 10001 = 10001, 1 * 10002 = 10002
        self.assertEqual(says(10000, 9999, 0, 0), UNWANTED)
        self.assertEqual(says(9999, 10000, 0, 0), WANTED)

    def test_a_word_in_no_letter_that_was_taught(self):
        for taught in (0, 1, 6, 10000):
            with self.subTest(taught=taught):
                self.assertEqual(says(taught, taught, 0, 0), NEITHER)
        # 1 * 3 = 3, 1 * 5 = 5
        self.assertEqual(says(3, 1, 0, 0), UNWANTED)
        # 1 * 5 = 5, 1 * 3 = 3
        self.assertEqual(says(1, 3, 0, 0), WANTED)
        # 1 * 8 = 8, 1 * 9 = 9
        self.assertEqual(says(7, 6, 0, 0), UNWANTED)
        self.assertEqual(says(6, 7, 0, 0), WANTED)
        # 1 * 2 = 2, 1 * 10002 = 10002
        self.assertEqual(says(10000, 0, 0, 0), UNWANTED)
        self.assertEqual(says(0, 10000, 0, 0), WANTED)


class Refusals(unittest.TestCase):
    """Beside each refusal stands what is just allowed."""

    def refused(self, n, m, a, b):
        with self.subTest(n=n, m=m, a=a, b=b):
            self.assertEqual(says(n, m, a, b), REFUSED)

    def test_n_above_10000(self):
        # 1 * 2 = 2, 1 * 10002 = 10002
        self.assertEqual(says(10000, 0, 0, 0), UNWANTED)
        # 10001 * 2 = 20002, 1 * 10002 = 10002
        self.assertEqual(says(10000, 0, 10000, 0), WANTED)
        for n in (10001, 10002, 65536, LARGEST - 1, LARGEST):
            self.refused(n, 0, 0, 0)
            self.refused(n, 0, 10000, 0)
            self.refused(n, 10000, 10000, 10000)

    def test_m_above_10000(self):
        # 1 * 10002 = 10002, 1 * 2 = 2
        self.assertEqual(says(0, 10000, 0, 0), WANTED)
        # 1 * 10002 = 10002, 10001 * 2 = 20002
        self.assertEqual(says(0, 10000, 0, 10000), UNWANTED)
        for m in (10001, 10002, 65536, LARGEST - 1, LARGEST):
            self.refused(0, m, 0, 0)
            self.refused(0, m, 0, 10000)
            self.refused(10000, m, 10000, 10000)

    def test_n_and_m_of_10000(self):
        self.assertEqual(says(10000, 10000, 0, 0), NEITHER)
        self.assertEqual(says(10000, 10000, 10000, 10000), NEITHER)
        self.assertEqual(says(10000, 10000, 0, 10000), UNWANTED)
        self.assertEqual(says(10000, 10000, 10000, 0), WANTED)
        self.refused(10001, 10001, 0, 0)
        self.refused(10001, 10001, 10001, 10001)

    def test_an_a_above_n(self):
        # 3 * 6 = 18, 1 * 4 = 4
        self.assertEqual(says(2, 4, 2, 0), WANTED)
        # 3 * 6 = 18, 5 * 4 = 20
        self.assertEqual(says(2, 4, 2, 4), UNWANTED)
        # An a of 3 is allowed by m, but not by n.
        for a in (3, 4, 5, 10000, LARGEST):
            self.refused(2, 4, a, 0)
            self.refused(2, 4, a, 4)
        self.refused(0, 0, 1, 0)
        self.refused(0, 10000, 1, 0)
        self.refused(9999, 10000, 10000, 0)
        self.refused(10000, 10000, 10001, 0)

    def test_a_b_above_m(self):
        # 1 * 4 = 4, 3 * 6 = 18
        self.assertEqual(says(4, 2, 0, 2), UNWANTED)
        # 5 * 4 = 20, 3 * 6 = 18
        self.assertEqual(says(4, 2, 4, 2), WANTED)
        # A b of 3 is allowed by n, but not by m.
        for b in (3, 4, 5, 10000, LARGEST):
            self.refused(4, 2, 0, b)
            self.refused(4, 2, 4, b)
        self.refused(0, 0, 0, 1)
        self.refused(10000, 0, 0, 1)
        self.refused(10000, 9999, 0, 10000)
        self.refused(10000, 10000, 0, 10001)

    def test_an_a_may_be_above_m_and_a_b_above_n(self):
        # 4 * 3 = 12, 1 * 6 = 6
        self.assertEqual(says(4, 1, 3, 0), WANTED)
        # 1 * 6 = 6, 4 * 3 = 12
        self.assertEqual(says(1, 4, 0, 3), UNWANTED)

    def test_what_is_just_allowed_and_just_not(self):
        """Every word, of up to four letters taught of each side, with an a or b up to two above."""
        for n, m in product(range(5), repeat=2):
            for a, b in product(range(n + 3), range(m + 3)):
                with self.subTest(n=n, m=m, a=a, b=b):
                    self.assertEqual(says(n, m, a, b) == REFUSED, a > n or b > m)

    def test_the_largest_number_in_every_place(self):
        self.assertEqual(says(3, 3, 3, 3), NEITHER)
        self.refused(LARGEST, 3, 3, 3)
        self.refused(3, LARGEST, 3, 3)
        self.refused(3, 3, LARGEST, 3)
        self.refused(3, 3, 3, LARGEST)
        self.refused(LARGEST, LARGEST, LARGEST, LARGEST)

    def test_several_at_once(self):
        """Every choice of two or more of what is due -22."""
        for n, m, above_n, above_m in product((3, 10001), (5, 10001), (0, 1), (0, 1)):
            faults = [n > 10000, m > 10000, above_n == 1, above_m == 1]
            if sum(faults) >= 2:
                self.refused(n, m, n + above_n, m + above_m)
        self.refused(LARGEST, LARGEST, 0, 0)
        self.refused(LARGEST - 1, 3, LARGEST, 4)
        self.refused(3, LARGEST - 1, 4, LARGEST)
        self.refused(0, 0, LARGEST, LARGEST)


class TheInterface(unittest.TestCase):

    CALLS = [
        (3, 5, 1, 2),
        (5, 3, 2, 1),
        (7, 7, 3, 3),
        (0, 0, 0, 0),
        (10000, 10000, 0, 10000),
        (10001, 3, 0, 0),
        (3, 10001, 0, 0),
        (3, 3, 4, 0),
        (3, 3, 0, 4),
        (LARGEST, LARGEST, LARGEST, LARGEST),
    ]
    ANSWERS = [UNWANTED, WANTED, NEITHER, NEITHER, UNWANTED] + [REFUSED] * 5

    def test_its_arguments(self):
        parameters = list(inspect.signature(says).parameters.values())
        self.assertEqual([p.name for p in parameters], ["n", "m", "a", "b"])
        for parameter in parameters:
            self.assertIs(parameter.kind, inspect.Parameter.POSITIONAL_OR_KEYWORD)
            self.assertIs(parameter.default, inspect.Parameter.empty)
        self.assertEqual(says(n=3, m=5, a=1, b=2), UNWANTED)
        self.assertEqual(says(b=1, a=2, m=3, n=5), WANTED)

    def test_it_gives_back_a_list_of_one_whole_number(self):
        for n, m, a, b in self.CALLS:
            with self.subTest(n=n, m=m, a=a, b=b):
                answer = says(n, m, a, b)
                self.assertIs(type(answer), list)
                self.assertEqual([type(number) for number in answer], [int])

    def test_a_second_call_answers_the_same(self):
        first = [says(n, m, a, b) for n, m, a, b in self.CALLS]
        again = [says(n, m, a, b) for n, m, a, b in reversed(self.CALLS)]
        self.assertEqual(first, self.ANSWERS)
        self.assertEqual(again[::-1], self.ANSWERS)

    def test_the_same_call_twice_in_a_row_answers_the_same(self):
        for (n, m, a, b), expected in zip(self.CALLS, self.ANSWERS, strict=True):
            with self.subTest(n=n, m=m, a=a, b=b):
                self.assertEqual(says(n, m, a, b), expected)
                self.assertEqual(says(n, m, a, b), expected)

    def test_an_answer_that_is_changed_does_not_come_back(self):
        for (n, m, a, b), expected in zip(self.CALLS, self.ANSWERS, strict=True):
            with self.subTest(n=n, m=m, a=a, b=b):
                says(n, m, a, b).append(7)
                self.assertEqual(says(n, m, a, b), expected)

    def test_it_and_the_other_calls_do_not_touch_one_another(self):
        for _ in range(2):
            self.assertEqual(says(3, 5, 1, 2), UNWANTED)
            self.assertEqual(chance(3, 5, [1, 2]), [616])
            self.assertEqual(told(2, 3, 5, [1, 2]), [1])
            self.assertEqual(says(3, 5, 4, 2), REFUSED)

    def test_it_prints_nothing(self):
        out, err = io.StringIO(), io.StringIO()
        with contextlib.redirect_stdout(out), contextlib.redirect_stderr(err):
            for n, m, a, b in self.CALLS:
                says(n, m, a, b)
        self.assertEqual((out.getvalue(), err.getvalue()), ("", ""))


if __name__ == "__main__":
    unittest.main()
