import contextlib
import inspect
import io
import unittest
from itertools import product

from helpers import LARGEST, REFUSED, LockedList, flat, odds, words

from unwantedmail.desk import chance, told

UNWANTED = [2]
IN_DOUBT = [1]
WANTED = [0]


class OrdinaryLetters(unittest.TestCase):
    """In the remarks: the weight for wanted, and the weight for unwanted."""

    def test_unwanted_without_words(self):
        # 2, 4
        self.assertEqual(told(1, 1, 3, []), UNWANTED)
        self.assertEqual(told(2, 1, 3, []), UNWANTED)
        # 3, 10
        self.assertEqual(told(3, 2, 9, []), UNWANTED)
        # 1, 11
        self.assertEqual(told(10, 0, 10, []), UNWANTED)

    def test_in_doubt_without_words(self):
        # 2, 4
        self.assertEqual(told(3, 1, 3, []), IN_DOUBT)
        # 3, 10
        self.assertEqual(told(4, 2, 9, []), IN_DOUBT)
        # 1, 11
        self.assertEqual(told(12, 0, 10, []), IN_DOUBT)
        # 100, 101
        self.assertEqual(told(2, 99, 100, []), IN_DOUBT)

    def test_wanted_without_words(self):
        # 4, 2
        self.assertEqual(told(1, 3, 1, []), WANTED)
        self.assertEqual(told(2, 3, 1, []), WANTED)
        self.assertEqual(told(5, 3, 1, []), WANTED)
        # 101, 100
        self.assertEqual(told(1, 100, 99, []), WANTED)
        self.assertEqual(told(2, 100, 99, []), WANTED)

    def test_one_word(self):
        # 4 * 2 * 7 = 56, 6 * 3 * 5 = 90
        self.assertEqual(told(1, 3, 5, [1, 2]), UNWANTED)
        self.assertEqual(told(2, 3, 5, [1, 2]), IN_DOUBT)
        # 6 * 3 * 5 = 90, 4 * 2 * 7 = 56
        self.assertEqual(told(1, 5, 3, [2, 1]), WANTED)
        self.assertEqual(told(2, 5, 3, [2, 1]), WANTED)
        # 1 * 1 * 12 = 12, 11 * 11 * 2 = 242: 20 times 12 are 240, 21 times 252.
        self.assertEqual(told(20, 0, 10, [0, 10]), UNWANTED)
        self.assertEqual(told(21, 0, 10, [0, 10]), IN_DOUBT)
        # 10 * 10 * 11 = 1100, 10 * 1 * 11 = 110
        self.assertEqual(told(1, 9, 9, [9, 0]), WANTED)
        self.assertEqual(told(10, 9, 9, [9, 0]), WANTED)

    def test_several_words(self):
        # 5 * (2 * 4) * (4 * 4) = 640, 3 * (3 * 6) * (1 * 6) = 324
        self.assertEqual(told(1, 4, 2, [1, 2, 3, 0]), WANTED)
        self.assertEqual(told(2, 4, 2, [1, 2, 3, 0]), WANTED)
        # 3 * (1 * 6) * (2 * 6) * (3 * 6) = 3888, 5 * (5 * 4) * (3 * 4) * (1 * 4) = 4800
        self.assertEqual(told(1, 2, 4, [0, 4, 1, 2, 2, 0]), UNWANTED)
        self.assertEqual(told(2, 2, 4, [0, 4, 1, 2, 2, 0]), IN_DOUBT)
        # 3 * (1 * 6) * (2 * 6) = 216, 5 * (5 * 4) * (3 * 4) = 1200: 5 times 216 are 1080, 6 times 1296.
        self.assertEqual(told(5, 2, 4, [0, 4, 1, 2]), UNWANTED)
        self.assertEqual(told(6, 2, 4, [0, 4, 1, 2]), IN_DOUBT)

    def test_words_may_outweigh_the_letters_that_were_taught(self):
        # 4, 2; with the word 4 * 1 * 3 = 12, 2 * 2 * 5 = 20
        self.assertEqual(told(1, 3, 1, []), WANTED)
        self.assertEqual(told(1, 3, 1, [0, 1]), UNWANTED)
        self.assertEqual(told(2, 3, 1, [0, 1]), IN_DOUBT)
        # 2, 4; with the word 2 * 2 * 5 = 20, 4 * 1 * 3 = 12
        self.assertEqual(told(2, 1, 3, []), UNWANTED)
        self.assertEqual(told(2, 1, 3, [1, 0]), WANTED)

    def test_a_word_that_stands_twice_counts_twice(self):
        # 2 * 1 * 3 = 6, 2 * 2 * 3 = 12
        self.assertEqual(told(2, 1, 1, [0, 1]), UNWANTED)
        self.assertEqual(told(3, 1, 1, [0, 1]), IN_DOUBT)
        # 6 * 3 = 18, 12 * 6 = 72
        self.assertEqual(told(4, 1, 1, [0, 1, 0, 1]), UNWANTED)
        self.assertEqual(told(5, 1, 1, [0, 1, 0, 1]), IN_DOUBT)

    def test_the_order_of_words_is_no_matter(self):
        for t, expected in [(1, UNWANTED), (2, IN_DOUBT)]:
            for l in ([0, 4, 1, 2, 2, 0], [2, 0, 0, 4, 1, 2], [1, 2, 2, 0, 0, 4]):
                with self.subTest(t=t, l=l):
                    self.assertEqual(told(t, 2, 4, l), expected)

    def test_small_letters_as_fractions(self):
        """Every letter of up to two words, of up to two letters taught of each side."""
        for n, m in product(range(3), repeat=2):
            pairs = list(product(range(n + 1), range(m + 1)))
            for letter in [[]] + [[p] for p in pairs] + [[p, q] for p in pairs for q in pairs]:
                l = flat(letter)
                times = odds(n, m, l)
                for t in (1, 2, 3, 4, 5, 6, 9, 27, 1000):
                    expected = UNWANTED if times >= t else IN_DOUBT if times > 1 else WANTED
                    with self.subTest(t=t, n=n, m=m, l=l):
                        self.assertEqual(told(t, n, m, l), expected)


class Corners(unittest.TestCase):

    def just_as_likely(self, n, m, l):
        """Weights that are alike: t of 1 is met by them, and else they're not in doubt, but wanted."""
        with self.subTest(n=n, m=m, l=l):
            self.assertEqual(told(1, n, m, l), UNWANTED)
            for t in (2, 3, 1000):
                self.assertEqual(told(t, n, m, l), WANTED)

    def unwanted_up_to(self, most, n, m, l):
        """Of this t, and of a lesser one, the letter is told unwanted; of a greater one in doubt."""
        with self.subTest(n=n, m=m, l=l):
            for t in (1, most - 1, most):
                if t >= 1:
                    self.assertEqual(told(t, n, m, l), UNWANTED)
            for t in (most + 1, 1000):
                if most < t <= 1000:
                    self.assertEqual(told(t, n, m, l), IN_DOUBT)

    def wanted(self, n, m, l):
        with self.subTest(n=n, m=m, l=l):
            for t in (1, 2, 3, 1000):
                self.assertEqual(told(t, n, m, l), WANTED)

    def test_nothing_taught(self):
        self.just_as_likely(0, 0, [])
        self.just_as_likely(0, 0, [0, 0])
        self.just_as_likely(0, 0, [0, 0] * 40)

    def test_nothing_taught_of_one_side(self):
        # 1, 5
        self.unwanted_up_to(5, 0, 4, [])
        # 1 * 1 * 6 = 6, 5 * 1 * 2 = 10
        self.unwanted_up_to(1, 0, 4, [0, 0])
        # 5, 1
        self.wanted(4, 0, [])
        # 5 * 1 * 2 = 10, 1 * 1 * 6 = 6
        self.wanted(4, 0, [0, 0])

    def test_just_as_likely(self):
        self.just_as_likely(7, 7, [])
        self.just_as_likely(7, 7, [3, 3])
        self.just_as_likely(7, 7, [1, 2, 2, 1])
        self.just_as_likely(10000, 10000, [])
        # 2 * (2 * 9) * (2 * 9) = 648, 8 * (3 * 3) * (3 * 3) = 648
        self.just_as_likely(1, 7, [1, 2, 1, 2])
        self.just_as_likely(7, 1, [2, 1, 2, 1])

    def test_next_to_just_as_likely(self):
        # 10000, 10001
        self.unwanted_up_to(1, 9999, 10000, [])
        # 10001, 10000
        self.wanted(10000, 9999, [])

    def test_t_just_met_without_words(self):
        """For every t: 10 and t times 10; one less; one more."""
        for t in range(1, 1001):
            with self.subTest(t=t):
                self.assertEqual(told(t, 9, 10 * t - 1, []), UNWANTED)
                self.assertEqual(told(t, 9, 10 * t, []), UNWANTED)
                self.assertEqual(told(t, 9, 10 * t - 2, []), IN_DOUBT if t > 1 else WANTED)

    def test_t_just_met_with_a_word(self):
        """The same, 10001 times 10002 times as great."""
        for t in range(1, 1001):
            with self.subTest(t=t):
                self.assertEqual(told(t, 10000, 10000, [9, 10 * t - 1]), UNWANTED)
                self.assertEqual(told(t, 10000, 10000, [9, 10 * t]), UNWANTED)
                self.assertEqual(told(t, 10000, 10000, [9, 10 * t - 2]), IN_DOUBT if t > 1 else WANTED)

    def test_t_one_below_and_one_above_what_is_just_met(self):
        # 1, 7
        self.unwanted_up_to(7, 0, 6, [])
        # 10 * 1 * 11 = 110, 10 * 10 * 11 = 1100
        self.unwanted_up_to(10, 9, 9, [0, 9])
        # 1, 999 and 1000 and 1001
        self.unwanted_up_to(999, 0, 998, [])
        self.unwanted_up_to(1000, 0, 999, [])
        self.unwanted_up_to(1000, 0, 1000, [])

    def test_t_of_1_is_never_in_doubt(self):
        for n, m in product(range(4), repeat=2):
            for a, b in product(range(n + 1), range(m + 1)):
                weights = (n + 1) * (a + 1) * (m + 2), (m + 1) * (b + 1) * (n + 2)
                with self.subTest(n=n, m=m, a=a, b=b):
                    expected = UNWANTED if weights[1] >= weights[0] else WANTED
                    self.assertEqual(told(1, n, m, [a, b]), expected)

    def test_t_of_1000(self):
        # 1, 1000; 1, 999; 1, 2; 1, 1; 2, 1
        self.assertEqual(told(1000, 0, 999, []), UNWANTED)
        self.assertEqual(told(1000, 0, 998, []), IN_DOUBT)
        self.assertEqual(told(1000, 0, 1, []), IN_DOUBT)
        self.assertEqual(told(1000, 0, 0, []), WANTED)
        self.assertEqual(told(1000, 1, 0, []), WANTED)
        # 10, 10000; 10, 9999
        self.assertEqual(told(1000, 9, 9999, []), UNWANTED)
        self.assertEqual(told(1000, 9, 9998, []), IN_DOUBT)

    def test_a_word_in_no_letter_that_was_taught(self):
        self.just_as_likely(6, 6, [0, 0])
        # 4 * 1 * 3 = 12, 2 * 1 * 5 = 10
        self.wanted(3, 1, [0, 0])
        # 4 * 3 * 3 = 36, 2 * 5 * 5 = 50
        self.unwanted_up_to(1, 3, 1, [0, 0, 0, 0])
        # 2 * 1 * 5 = 10, 4 * 1 * 3 = 12
        self.unwanted_up_to(1, 1, 3, [0, 0])

    def test_forty_words(self):
        # The weight for unwanted is 2 to the power of 40, 10, 9 times as great.
        self.unwanted_up_to(1000, 1, 1, [0, 1] * 40)
        self.unwanted_up_to(1000, 1, 1, [0, 1] * 10 + [0, 0] * 30)
        self.unwanted_up_to(512, 1, 1, [0, 1] * 9 + [0, 0] * 31)
        self.wanted(1, 1, [1, 0] * 40)
        self.just_as_likely(1, 1, [0, 1] * 20 + [1, 0] * 20)

    def test_the_first_and_the_last_of_forty_words_count(self):
        self.unwanted_up_to(2, 1, 1, [0, 1] + [1, 1] * 39)
        self.unwanted_up_to(2, 1, 1, [1, 1] * 39 + [0, 1])
        self.wanted(1, 1, [1, 0] + [0, 0] * 39)
        self.wanted(1, 1, [0, 0] * 39 + [1, 0])

    def test_numbers_of_about_64_bits(self):
        # 7 * 8 to the power of 19 has 60 bits, and 70 when it's taken 1,000 times.
        self.just_as_likely(6, 6, [0, 0] * 19)
        self.unwanted_up_to(3, 6, 6, [0, 0] * 18 + [0, 2])
        # 16 to the power of 16 is 2 to the power of 64.
        self.just_as_likely(14, 14, [0, 0] * 16)
        self.unwanted_up_to(2, 14, 14, [0, 0] * 16 + [0, 1])
        self.wanted(14, 14, [0, 0] * 16 + [1, 0])

    def test_the_largest_numbers(self):
        self.unwanted_up_to(1000, 10000, 10000, [0, 10000] * 40)
        self.wanted(10000, 10000, [10000, 0] * 40)
        self.just_as_likely(10000, 10000, [10000, 10000] * 40)
        self.just_as_likely(10000, 10000, [0, 10000] * 20 + [10000, 0] * 20)
        self.unwanted_up_to(1000, 10000, 10000, [10000, 10000] * 39 + [0, 1000])
        self.unwanted_up_to(1000, 10000, 10000, [10000, 10000] * 39 + [0, 999])
        self.unwanted_up_to(999, 10000, 10000, [10000, 10000] * 39 + [0, 998])

    def test_it_is_exact_where_the_weights_are_nearly_the_same(self):
        # With y = 9980 * 9980, (y - 1)(y - 121)(y - 144) is by 201600 greater than
        # (y - 16)(y - 81)(y - 169): one part in about 5 * 10 to the power of 18.
        greater = [9980 + step - 1 for step in (1, -1, 11, -11, 12, -12)]
        lesser = [9980 + step - 1 for step in (4, -4, 9, -9, 13, -13)]
        self.wanted(10000, 10000, words(greater, lesser))
        self.unwanted_up_to(1, 10000, 10000, words(lesser, greater))
        self.just_as_likely(10000, 10000, words(lesser + greater, greater + lesser))
        # Next to t times as great.
        for t in (2, 3, 10, 999, 1000):
            self.unwanted_up_to(t - 1, 10000, 10000, [0, t - 1] + words(greater, lesser))
            self.unwanted_up_to(t, 10000, 10000, [0, t - 1])
            self.unwanted_up_to(t, 10000, 10000, [0, t - 1] + words(lesser, greater))


class Refusals(unittest.TestCase):
    """Beside each refusal stands what is just allowed."""

    def refused(self, n, m, l):
        """It's no letter: no t helps it."""
        with self.subTest(n=n, m=m, l=l):
            for t in (0, 1, 2, 1000, 1001):
                self.assertEqual(told(t, n, m, l), REFUSED)

    def test_t_of_0(self):
        # 2, 4; 2, 2; 4, 2
        self.assertEqual(told(1, 1, 3, []), UNWANTED)
        self.assertEqual(told(1, 1, 1, []), UNWANTED)
        self.assertEqual(told(1, 3, 1, []), WANTED)
        for n, m in [(1, 3), (1, 1), (3, 1), (0, 0)]:
            for l in ([], [0, 0], [0, 0] * 40):
                with self.subTest(n=n, m=m, l=l):
                    self.assertEqual(told(0, n, m, l), REFUSED)

    def test_t_above_1000(self):
        # 1, 10001; 2, 4; 4, 2
        self.assertEqual(told(1000, 0, 10000, []), UNWANTED)
        self.assertEqual(told(1000, 1, 3, []), IN_DOUBT)
        self.assertEqual(told(1000, 3, 1, []), WANTED)
        for t in (1001, 1002, 10000, 65536, LARGEST - 1, LARGEST):
            for n, m in [(0, 10000), (1, 3), (3, 1), (0, 0)]:
                for l in ([], [0, 0], [0, 0] * 40):
                    with self.subTest(t=t, n=n, m=m, l=l):
                        self.assertEqual(told(t, n, m, l), REFUSED)

    def test_every_t_from_1_to_1000_is_allowed(self):
        # 11, 5511: 501 times as great
        for t in range(1, 1001):
            with self.subTest(t=t):
                self.assertEqual(told(t, 10, 5510, []), UNWANTED if t <= 501 else IN_DOUBT)

    def test_n_above_10000(self):
        self.assertEqual(told(2, 10000, 0, []), WANTED)
        self.assertEqual(told(2, 10000, 0, [0, 0]), WANTED)
        for n in (10001, 10002, 65536, LARGEST - 1, LARGEST):
            self.refused(n, 0, [])
            self.refused(n, 0, [0, 0])
            self.refused(n, 10000, [10000, 10000])

    def test_m_above_10000(self):
        # 1, 10001
        self.assertEqual(told(2, 0, 10000, []), UNWANTED)
        # 1 * 1 * 10002 = 10002, 10001 * 1 * 2 = 20002
        self.assertEqual(told(1, 0, 10000, [0, 0]), UNWANTED)
        self.assertEqual(told(2, 0, 10000, [0, 0]), IN_DOUBT)
        for m in (10001, 10002, 65536, LARGEST - 1, LARGEST):
            self.refused(0, m, [])
            self.refused(0, m, [0, 0])
            self.refused(10000, m, [10000, 10000])

    def test_n_and_m_of_10000(self):
        self.assertEqual(told(1, 10000, 10000, []), UNWANTED)
        self.assertEqual(told(2, 10000, 10000, []), WANTED)
        self.assertEqual(told(2, 10000, 10000, [10000, 10000]), WANTED)
        self.refused(10001, 10001, [])

    def test_more_than_40_words(self):
        self.assertEqual(told(2, 1, 1, [0, 0] * 40), WANTED)
        self.refused(1, 1, [0, 0] * 41)
        self.refused(1, 1, [0, 0] * 42)
        self.assertEqual(told(1, 10000, 10000, [10000, 10000] * 40), UNWANTED)
        self.refused(10000, 10000, [10000, 10000] * 41)
        self.refused(10000, 10000, [10000, 10000] * 42)

    def test_an_a_above_n(self):
        # 3 * 3 * 6 = 54, 5 * 1 * 4 = 20
        self.assertEqual(told(2, 2, 4, [2, 0]), WANTED)
        # An a of 3 is allowed by m, but not by n.
        for a in (3, 4, 5, 10000, LARGEST):
            self.refused(2, 4, [a, 0])
        self.refused(0, 0, [1, 0])
        self.assertEqual(told(1, 10000, 10000, [10000, 0]), WANTED)
        self.refused(10000, 10000, [10001, 0])

    def test_a_b_above_m(self):
        # 5 * 1 * 4 = 20, 3 * 3 * 6 = 54
        self.assertEqual(told(2, 4, 2, [0, 2]), UNWANTED)
        self.assertEqual(told(3, 4, 2, [0, 2]), IN_DOUBT)
        # A b of 3 is allowed by n, but not by m.
        for b in (3, 4, 5, 10000, LARGEST):
            self.refused(4, 2, [0, b])
        self.refused(0, 0, [0, 1])
        self.assertEqual(told(1000, 10000, 10000, [0, 10000]), UNWANTED)
        self.refused(10000, 10000, [0, 10001])

    def test_an_a_may_be_above_m_and_a_b_above_n(self):
        # 5 * 4 * 3 = 60, 2 * 1 * 6 = 12
        self.assertEqual(told(5, 4, 1, [3, 0]), WANTED)
        # 2 * 1 * 6 = 12, 5 * 4 * 3 = 60
        self.assertEqual(told(5, 1, 4, [0, 3]), UNWANTED)
        self.assertEqual(told(6, 1, 4, [0, 3]), IN_DOUBT)

    def test_a_and_b_may_be_above_t(self):
        self.assertEqual(told(1, 5, 5, [4, 5]), UNWANTED)
        self.assertEqual(told(2, 5, 5, [4, 5]), IN_DOUBT)
        self.assertEqual(told(1000, 10000, 10000, [1001, 1001]), WANTED)

    def test_an_a_or_b_is_looked_at_in_every_place(self):
        self.assertEqual(told(2, 5, 5, [5, 5] * 40), WANTED)
        for place in range(80):
            letter = [5, 5] * 40
            letter[place] = 6
            self.refused(5, 5, letter)

    def test_an_odd_length(self):
        for length in range(1, 84, 2):
            self.refused(3, 3, [0] * length)
        for length in range(0, 81, 2):
            with self.subTest(length=length):
                self.assertEqual(told(1, 3, 3, [0] * length), UNWANTED)
                self.assertEqual(told(2, 3, 3, [0] * length), WANTED)

    def test_the_largest_number_in_every_place(self):
        self.assertEqual(told(LARGEST, 3, 3, []), REFUSED)
        self.refused(LARGEST, 3, [])
        self.refused(3, LARGEST, [])
        self.refused(3, 3, [LARGEST])
        self.refused(3, 3, [LARGEST, LARGEST])
        self.refused(3, 3, [LARGEST] * 84)
        self.assertEqual(told(LARGEST, LARGEST, LARGEST, []), REFUSED)
        self.assertEqual(told(LARGEST, LARGEST, LARGEST, [LARGEST] * 84), REFUSED)

    def test_several_at_once(self):
        self.refused(10001, 10001, [10001, 10001])
        self.refused(10001, 3, [0, 4])
        self.refused(3, 10001, [4, 0])
        self.refused(10001, 3, [0])
        self.refused(3, 10001, [0, 0] * 41)
        self.refused(3, 3, [4, 4])
        self.refused(3, 3, [4])
        self.refused(3, 3, [4, 4, 0])
        self.refused(3, 3, [4, 4] * 41)
        self.refused(3, 3, [4] * 83)
        self.refused(10001, 10001, [10002] * 83)


class TheInterface(unittest.TestCase):

    CALLS = [
        (1, 3, 5, [1, 2]),
        (2, 3, 5, [1, 2]),
        (2, 5, 3, [2, 1]),
        (2, 0, 0, []),
        (1000, 10000, 10000, [0, 10000] * 40),
        (0, 3, 5, [1, 2]),
        (1001, 3, 5, [1, 2]),
        (2, 10001, 3, [0, 0]),
        (2, 3, 3, [3, 0, 0]),
        (2, 3, 3, [3, 0, 4, 0]),
        (2, 3, 3, [3, 0] * 42),
    ]
    ANSWERS = [UNWANTED, IN_DOUBT, WANTED, WANTED, UNWANTED] + [REFUSED] * 6

    def test_its_arguments(self):
        parameters = list(inspect.signature(told).parameters.values())
        self.assertEqual([p.name for p in parameters], ["t", "n", "m", "l"])
        for parameter in parameters:
            self.assertIs(parameter.kind, inspect.Parameter.POSITIONAL_OR_KEYWORD)
            self.assertIs(parameter.default, inspect.Parameter.empty)
        self.assertEqual(told(t=2, n=3, m=5, l=[1, 2]), IN_DOUBT)

    def test_it_gives_back_a_list_of_one_whole_number(self):
        for t, n, m, l in self.CALLS:
            with self.subTest(t=t, n=n, m=m, l=l):
                answer = told(t, n, m, list(l))
                self.assertIs(type(answer), list)
                self.assertEqual([type(number) for number in answer], [int])

    def test_the_list_is_afterwards_as_it_was(self):
        for t, n, m, l in self.CALLS:
            with self.subTest(t=t, n=n, m=m, l=l):
                handed = list(l)
                told(t, n, m, handed)
                self.assertEqual(handed, l)

    def test_the_list_is_not_changed_for_a_while_either(self):
        for t, n, m, l in self.CALLS:
            with self.subTest(t=t, n=n, m=m, l=l):
                self.assertEqual(told(t, n, m, LockedList(l)), told(t, n, m, list(l)))

    def test_a_second_call_answers_the_same(self):
        first = [told(t, n, m, list(l)) for t, n, m, l in self.CALLS]
        again = [told(t, n, m, list(l)) for t, n, m, l in reversed(self.CALLS)]
        self.assertEqual(first, self.ANSWERS)
        self.assertEqual(again[::-1], self.ANSWERS)

    def test_the_same_call_twice_in_a_row_answers_the_same(self):
        for (t, n, m, l), expected in zip(self.CALLS, self.ANSWERS, strict=True):
            with self.subTest(t=t, n=n, m=m, l=l):
                handed = list(l)
                self.assertEqual(told(t, n, m, handed), expected)
                self.assertEqual(told(t, n, m, handed), expected)

    def test_the_same_list_changed_between_is_read_anew(self):
        letter = [1, 2]
        self.assertEqual(told(2, 3, 5, letter), IN_DOUBT)
        letter[0] = 3
        # 4 * 4 * 7 = 112, 6 * 3 * 5 = 90
        self.assertEqual(told(2, 3, 5, letter), WANTED)

    def test_an_answer_that_is_changed_does_not_come_back(self):
        for (t, n, m, l), expected in zip(self.CALLS, self.ANSWERS, strict=True):
            with self.subTest(t=t, n=n, m=m, l=l):
                told(t, n, m, list(l)).append(7)
                self.assertEqual(told(t, n, m, list(l)), expected)

    def test_it_and_chance_do_not_touch_one_another(self):
        letter = [1, 2]
        self.assertEqual(chance(3, 5, letter), [616])
        self.assertEqual(told(2, 3, 5, letter), IN_DOUBT)
        self.assertEqual(chance(3, 5, letter), [616])
        self.assertEqual(told(1001, 3, 5, letter), REFUSED)
        self.assertEqual(chance(3, 5, letter), [616])

    def test_it_prints_nothing(self):
        out, err = io.StringIO(), io.StringIO()
        with contextlib.redirect_stdout(out), contextlib.redirect_stderr(err):
            for t, n, m, l in self.CALLS:
                told(t, n, m, list(l))
        self.assertEqual((out.getvalue(), err.getvalue()), ("", ""))


if __name__ == "__main__":
    unittest.main()
