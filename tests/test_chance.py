import ast
import contextlib
import inspect
import io
import pathlib
import unittest
from itertools import product

from helpers import LARGEST, REFUSED, LockedList, flat, odds, words

import unwantedmail
from unwantedmail.desk import chance


class OrdinaryLetters(unittest.TestCase):
    """In the remarks: the weight for wanted, the weight for unwanted, and what follows."""

    def test_without_words(self):
        # 4, 2: 2000 / 6 = 333.3
        self.assertEqual(chance(3, 1, []), [333])
        # 2, 4: 4000 / 6 = 666.7
        self.assertEqual(chance(1, 3, []), [666])
        # 3, 1: 1000 / 4 = 250
        self.assertEqual(chance(2, 0, []), [250])
        # 1, 11: 11000 / 12 = 916.7
        self.assertEqual(chance(0, 10, []), [916])

    def test_one_word(self):
        # 4 * 2 * 7 = 56, 6 * 3 * 5 = 90: 90000 / 146 = 616.4
        self.assertEqual(chance(3, 5, [1, 2]), [616])
        # 10 * 1 * 11 = 110, 10 * 10 * 11 = 1100: 1100000 / 1210 = 909.1
        self.assertEqual(chance(9, 9, [0, 9]), [909])
        # 10 * 10 * 11 = 1100, 10 * 1 * 11 = 110: 110000 / 1210 = 90.9
        self.assertEqual(chance(9, 9, [9, 0]), [90])
        # 1 * 1 * 12 = 12, 11 * 11 * 2 = 242: 242000 / 254 = 952.8
        self.assertEqual(chance(0, 10, [0, 10]), [952])

    def test_several_words(self):
        # 5 * (2 * 4) * (4 * 4) = 640, 3 * (3 * 6) * (1 * 6) = 324: 324000 / 964 = 336.1
        self.assertEqual(chance(4, 2, [1, 2, 3, 0]), [336])
        # 3 * (1 * 6) * (2 * 6) * (3 * 6) = 3888, 5 * (5 * 4) * (3 * 4) * (1 * 4) = 4800:
        # 4800000 / 8688 = 552.5
        self.assertEqual(chance(2, 4, [0, 4, 1, 2, 2, 0]), [552])

    def test_a_word_that_stands_twice_counts_twice(self):
        # 2 * 1 * 3 = 6, 2 * 2 * 3 = 12: 12000 / 18 = 666.7
        self.assertEqual(chance(1, 1, [0, 1]), [666])
        # 6 * 3 = 18, 12 * 6 = 72: 72000 / 90 = 800
        self.assertEqual(chance(1, 1, [0, 1, 0, 1]), [800])

    def test_it_is_rounded_down(self):
        # 10001, 10000: 10000000 / 20001 = 499.98
        self.assertEqual(chance(10000, 9999, []), [499])
        # 1, 10001: 10001000 / 10002 = 999.9
        self.assertEqual(chance(0, 10000, []), [999])
        # 10001, 1: 1000 / 10002 = 0.1
        self.assertEqual(chance(10000, 0, []), [0])

    def test_small_letters_as_fractions(self):
        """Every letter of up to two words, of up to two letters taught of each side."""
        for n, m in product(range(3), repeat=2):
            pairs = list(product(range(n + 1), range(m + 1)))
            for letter in [[]] + [[p] for p in pairs] + [[p, q] for p in pairs for q in pairs]:
                l = flat(letter)
                expected = int(1000 * odds(n, m, l) / (1 + odds(n, m, l)))
                with self.subTest(n=n, m=m, l=l):
                    self.assertEqual(chance(n, m, l), [expected])

    def test_the_order_of_words_is_no_matter(self):
        self.assertEqual(chance(2, 4, [2, 0, 0, 4, 1, 2]), chance(2, 4, [0, 4, 1, 2, 2, 0]))


class Corners(unittest.TestCase):

    def test_nothing_taught(self):
        self.assertEqual(chance(0, 0, []), [500])
        self.assertEqual(chance(0, 0, [0, 0]), [500])
        self.assertEqual(chance(0, 0, [0, 0] * 40), [500])

    def test_nothing_taught_of_one_side(self):
        # 1 * 1 * 6 = 6, 5 * 1 * 2 = 10: 10000 / 16 = 625
        self.assertEqual(chance(0, 4, [0, 0]), [625])
        # 5 * 1 * 2 = 10, 1 * 1 * 6 = 6: 6000 / 16 = 375
        self.assertEqual(chance(4, 0, [0, 0]), [375])

    def test_just_as_likely(self):
        self.assertEqual(chance(7, 7, []), [500])
        self.assertEqual(chance(7, 7, [3, 3]), [500])
        self.assertEqual(chance(7, 7, [1, 2, 2, 1]), [500])
        # 2 * (2 * 9) * (2 * 9) = 648, 8 * (3 * 3) * (3 * 3) = 648
        self.assertEqual(chance(1, 7, [1, 2, 1, 2]), [500])
        self.assertEqual(chance(7, 1, [2, 1, 2, 1]), [500])

    def test_a_word_in_no_letter_that_was_taught(self):
        self.assertEqual(chance(6, 6, [0, 0]), [500])
        # 4 * 1 * 3 = 12, 2 * 1 * 5 = 10: 10000 / 22 = 454.5
        self.assertEqual(chance(3, 1, [0, 0]), [454])
        # 4 * 3 * 3 = 36, 2 * 5 * 5 = 50: 50000 / 86 = 581.4
        self.assertEqual(chance(3, 1, [0, 0, 0, 0]), [581])

    def test_forty_words(self):
        # The weight for unwanted is 2 to the power of 40 times as great.
        self.assertEqual(chance(1, 1, [0, 1] * 40), [999])
        self.assertEqual(chance(1, 1, [1, 0] * 40), [0])
        self.assertEqual(chance(1, 1, [0, 1] * 20 + [1, 0] * 20), [500])

    def test_the_first_and_the_last_of_forty_words_count(self):
        # The weight for unwanted is twice as great: 2000 / 3 = 666.7
        self.assertEqual(chance(1, 1, [0, 1] + [1, 1] * 39), [666])
        self.assertEqual(chance(1, 1, [1, 1] * 39 + [0, 1]), [666])
        # The weight for wanted is twice as great: 1000 / 3 = 333.3
        self.assertEqual(chance(1, 1, [1, 0] + [0, 0] * 39), [333])
        self.assertEqual(chance(1, 1, [0, 0] * 39 + [1, 0]), [333])

    def test_numbers_of_about_64_bits(self):
        # 7 * 8 to the power of 19 has 60 bits, and 70 when it's taken 1,000 times.
        self.assertEqual(chance(6, 6, [0, 0] * 19), [500])
        self.assertEqual(chance(6, 6, [0, 0] * 18 + [0, 2]), [750])
        # 16 to the power of 16 is 2 to the power of 64.
        self.assertEqual(chance(14, 14, [0, 0] * 16), [500])
        self.assertEqual(chance(14, 14, [0, 0] * 16 + [0, 1]), [666])

    def test_the_largest_numbers(self):
        self.assertEqual(chance(10000, 10000, [0, 10000] * 40), [999])
        self.assertEqual(chance(10000, 10000, [10000, 0] * 40), [0])
        self.assertEqual(chance(10000, 10000, [0, 10000] * 20 + [10000, 0] * 20), [500])
        # 10001 to the power of 40, and three times as much: 3000 / 4 = 750
        self.assertEqual(chance(10000, 10000, [10000, 10000] * 39 + [0, 2]), [750])

    def test_it_is_exact_where_the_weights_are_nearly_the_same(self):
        # With y = 9980 * 9980, (y - 1)(y - 121)(y - 144) is by 201600 greater than
        # (y - 16)(y - 81)(y - 169): one part in about 5 * 10 to the power of 18.
        greater = [9980 + step - 1 for step in (1, -1, 11, -11, 12, -12)]
        lesser = [9980 + step - 1 for step in (4, -4, 9, -9, 13, -13)]
        self.assertEqual(chance(10000, 10000, words(greater, lesser)), [499])
        self.assertEqual(chance(10000, 10000, words(lesser, greater)), [500])
        # Next to 1000 / 4 = 250
        self.assertEqual(chance(10000, 10000, [2, 0] + words(greater, lesser)), [249])
        self.assertEqual(chance(10000, 10000, [2, 0] + words(lesser, greater)), [250])


class Refusals(unittest.TestCase):
    """Beside each refusal stands what is just allowed."""

    def test_n_above_10000(self):
        self.assertEqual(chance(10000, 0, []), [0])
        # 10001 * 1 * 2 = 20002, 1 * 1 * 10002 = 10002: 10002000 / 30004 = 333.4
        self.assertEqual(chance(10000, 0, [0, 0]), [333])
        for n in (10001, 10002, 65536, LARGEST - 1, LARGEST):
            with self.subTest(n=n):
                self.assertEqual(chance(n, 0, []), REFUSED)
                self.assertEqual(chance(n, 0, [0, 0]), REFUSED)
                self.assertEqual(chance(n, 10000, [10000, 10000]), REFUSED)

    def test_m_above_10000(self):
        self.assertEqual(chance(0, 10000, []), [999])
        # 1 * 1 * 10002 = 10002, 10001 * 1 * 2 = 20002: 20002000 / 30004 = 666.6
        self.assertEqual(chance(0, 10000, [0, 0]), [666])
        for m in (10001, 10002, 65536, LARGEST - 1, LARGEST):
            with self.subTest(m=m):
                self.assertEqual(chance(0, m, []), REFUSED)
                self.assertEqual(chance(0, m, [0, 0]), REFUSED)
                self.assertEqual(chance(10000, m, [10000, 10000]), REFUSED)

    def test_n_and_m_of_10000(self):
        self.assertEqual(chance(10000, 10000, []), [500])
        self.assertEqual(chance(10000, 10000, [10000, 10000]), [500])
        self.assertEqual(chance(10001, 10001, []), REFUSED)

    def test_more_than_40_words(self):
        self.assertEqual(chance(1, 1, [0, 0] * 40), [500])
        self.assertEqual(chance(1, 1, [0, 0] * 41), REFUSED)
        self.assertEqual(chance(1, 1, [0, 0] * 42), REFUSED)
        self.assertEqual(chance(10000, 10000, [10000, 10000] * 40), [500])
        self.assertEqual(chance(10000, 10000, [10000, 10000] * 41), REFUSED)
        self.assertEqual(chance(10000, 10000, [10000, 10000] * 42), REFUSED)

    def test_an_a_above_n(self):
        # 3 * 3 * 6 = 54, 5 * 1 * 4 = 20: 20000 / 74 = 270.3
        self.assertEqual(chance(2, 4, [2, 0]), [270])
        # An a of 3 is allowed by m, but not by n.
        for a in (3, 4, 5, 10000, LARGEST):
            with self.subTest(a=a):
                self.assertEqual(chance(2, 4, [a, 0]), REFUSED)
        self.assertEqual(chance(0, 0, [1, 0]), REFUSED)
        self.assertEqual(chance(10000, 10000, [10001, 0]), REFUSED)

    def test_a_b_above_m(self):
        # 5 * 1 * 4 = 20, 3 * 3 * 6 = 54: 54000 / 74 = 729.7
        self.assertEqual(chance(4, 2, [0, 2]), [729])
        # A b of 3 is allowed by n, but not by m.
        for b in (3, 4, 5, 10000, LARGEST):
            with self.subTest(b=b):
                self.assertEqual(chance(4, 2, [0, b]), REFUSED)
        self.assertEqual(chance(0, 0, [0, 1]), REFUSED)
        self.assertEqual(chance(10000, 10000, [0, 10001]), REFUSED)

    def test_an_a_may_be_above_m_and_a_b_above_n(self):
        # 5 * 4 * 3 = 60, 2 * 1 * 6 = 12: 12000 / 72 = 166.7
        self.assertEqual(chance(4, 1, [3, 0]), [166])
        # 2 * 1 * 6 = 12, 5 * 4 * 3 = 60: 60000 / 72 = 833.3
        self.assertEqual(chance(1, 4, [0, 3]), [833])

    def test_an_a_or_b_is_looked_at_in_every_place(self):
        self.assertEqual(chance(5, 5, [5, 5] * 40), [500])
        for place in range(80):
            letter = [5, 5] * 40
            letter[place] = 6
            with self.subTest(place=place):
                self.assertEqual(chance(5, 5, letter), REFUSED)

    def test_an_odd_length(self):
        for length in range(1, 84, 2):
            with self.subTest(length=length):
                self.assertEqual(chance(3, 3, [0] * length), REFUSED)
        for length in range(0, 81, 2):
            with self.subTest(length=length):
                self.assertEqual(chance(3, 3, [0] * length), [500])

    def test_the_largest_number_in_every_place(self):
        self.assertEqual(chance(LARGEST, LARGEST, []), REFUSED)
        self.assertEqual(chance(3, 3, [LARGEST]), REFUSED)
        self.assertEqual(chance(3, 3, [LARGEST, LARGEST]), REFUSED)
        self.assertEqual(chance(3, 3, [LARGEST] * 84), REFUSED)
        self.assertEqual(chance(LARGEST, LARGEST, [LARGEST] * 84), REFUSED)

    def test_several_at_once(self):
        self.assertEqual(chance(10001, 10001, [10001, 10001]), REFUSED)
        self.assertEqual(chance(10001, 3, [0, 4]), REFUSED)
        self.assertEqual(chance(3, 10001, [4, 0]), REFUSED)
        self.assertEqual(chance(10001, 3, [0]), REFUSED)
        self.assertEqual(chance(3, 10001, [0, 0] * 41), REFUSED)
        self.assertEqual(chance(3, 3, [4, 4]), REFUSED)
        self.assertEqual(chance(3, 3, [4]), REFUSED)
        self.assertEqual(chance(3, 3, [4, 4, 0]), REFUSED)
        self.assertEqual(chance(3, 3, [4, 4] * 41), REFUSED)
        self.assertEqual(chance(3, 3, [4] * 83), REFUSED)
        self.assertEqual(chance(10001, 10001, [10002] * 83), REFUSED)


class TheInterface(unittest.TestCase):

    CALLS = [
        (3, 5, [1, 2]),
        (0, 0, []),
        (10000, 10000, [0, 10000] * 40),
        (10001, 3, [0, 0]),
        (3, 3, [3, 0, 0]),
        (3, 3, [3, 0, 4, 0]),
        (3, 3, [3, 0] * 42),
    ]

    def test_its_arguments(self):
        parameters = list(inspect.signature(chance).parameters.values())
        self.assertEqual([p.name for p in parameters], ["n", "m", "l"])
        for parameter in parameters:
            self.assertIs(parameter.kind, inspect.Parameter.POSITIONAL_OR_KEYWORD)
            self.assertIs(parameter.default, inspect.Parameter.empty)
        self.assertEqual(chance(n=3, m=5, l=[1, 2]), [616])

    def test_it_gives_back_a_list_of_one_whole_number(self):
        for n, m, l in self.CALLS:
            with self.subTest(n=n, m=m, l=l):
                answer = chance(n, m, list(l))
                self.assertIs(type(answer), list)
                self.assertEqual([type(number) for number in answer], [int])

    def test_the_list_is_afterwards_as_it_was(self):
        for n, m, l in self.CALLS:
            with self.subTest(n=n, m=m, l=l):
                handed = list(l)
                chance(n, m, handed)
                self.assertEqual(handed, l)

    def test_the_list_is_not_changed_for_a_while_either(self):
        for n, m, l in self.CALLS:
            with self.subTest(n=n, m=m, l=l):
                self.assertEqual(chance(n, m, LockedList(l)), chance(n, m, list(l)))

    def test_a_second_call_answers_the_same(self):
        first = [chance(n, m, list(l)) for n, m, l in self.CALLS]
        again = [chance(n, m, list(l)) for n, m, l in reversed(self.CALLS)]
        self.assertEqual(first, again[::-1])
        self.assertEqual(first, [[616], [500], [999]] + [REFUSED] * 4)

    def test_the_same_list_changed_between_is_read_anew(self):
        letter = [1, 2]
        self.assertEqual(chance(3, 5, letter), [616])
        letter.clear()
        # 4, 6: 6000 / 10 = 600
        self.assertEqual(chance(3, 5, letter), [600])

    def test_an_answer_that_is_changed_does_not_come_back(self):
        for n, m, l in self.CALLS:
            with self.subTest(n=n, m=m, l=l):
                answer = chance(n, m, list(l))
                kept = list(answer)
                answer.append(7)
                self.assertEqual(chance(n, m, list(l)), kept)

    def test_it_prints_nothing(self):
        out, err = io.StringIO(), io.StringIO()
        with contextlib.redirect_stdout(out), contextlib.redirect_stderr(err):
            for n, m, l in self.CALLS:
                chance(n, m, list(l))
        self.assertEqual((out.getvalue(), err.getvalue()), ("", ""))

    def test_the_package_imports_nothing_from_outside(self):
        for file in pathlib.Path(unwantedmail.__file__).parent.glob("*.py"):
            for node in ast.walk(ast.parse(file.read_text(encoding="utf-8"))):
                with self.subTest(file=file.name):
                    self.assertNotIsInstance(node, ast.Import)
                    if isinstance(node, ast.ImportFrom):
                        self.assertEqual(node.module.split(".")[0], "unwantedmail")


if __name__ == "__main__":
    unittest.main()
