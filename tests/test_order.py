import contextlib
import inspect
import io
import random
import unittest
from fractions import Fraction
from itertools import permutations, product

from helpers import LARGEST, REFUSED, LockedList, flat, words

from unwantedmail.desk import chance, order, says, told


def loudness(a, b):
    return Fraction(b + 1, a + 1)


def expected_order(pairs):
    """The order of these words, each an a and a b, by fractions."""
    places = sorted(range(len(pairs)), key=lambda place: (-loudness(*pairs[place]), place))
    return [len(pairs)] + places


class OrdinaryWords(unittest.TestCase):
    """In the remarks: how loud each word is, in the order in which they stand."""

    def test_two_words(self):
        # 2, 1 / 2
        self.assertEqual(order([0, 1, 1, 0]), [2, 0, 1])
        # 1 / 2, 2
        self.assertEqual(order([1, 0, 0, 1]), [2, 1, 0])
        # 3 / 4, 4 / 3
        self.assertEqual(order([3, 2, 2, 3]), [2, 1, 0])
        # 4 / 3, 3 / 4
        self.assertEqual(order([2, 3, 3, 2]), [2, 0, 1])

    def test_three_words(self):
        # 2, 1 / 2, 1
        self.assertEqual(order([0, 1, 1, 0, 0, 0]), [3, 0, 2, 1])
        # 6 / 3 = 2, 9 / 3 = 3, 8 / 2 = 4
        self.assertEqual(order([2, 5, 2, 8, 1, 7]), [3, 2, 1, 0])
        # 5 / 10, 5 / 8, 5 / 9
        self.assertEqual(order([9, 4, 7, 4, 8, 4]), [3, 1, 2, 0])

    def test_five_words(self):
        # 1 / 3, 31 / 3, 6 / 6 = 1, 2 / 1, 10 / 11
        self.assertEqual(order([2, 0, 2, 30, 5, 5, 0, 1, 10, 9]), [5, 1, 3, 2, 4, 0])
        # 1000 / 501, 1001 / 501, 1001 / 500, 999 / 500, 1000 / 500; 1001 * 500 = 500500, 999 * 501 = 500499
        self.assertEqual(order([500, 999, 500, 1000, 499, 1000, 499, 998, 499, 999]), [5, 2, 4, 1, 3, 0])

    def test_it_goes_by_the_quotient(self):
        # 6 / 5, 3 / 2: the first one has the greater b, and both differ by 1.
        self.assertEqual(order([4, 5, 1, 2]), [2, 1, 0])
        # 20 / 10 = 2, 4 / 1: the first one has the greater b, and differs by more.
        self.assertEqual(order([9, 19, 0, 3]), [2, 1, 0])
        # 2 / 3, 11 / 20: the second one has the greater b.
        self.assertEqual(order([19, 10, 2, 1]), [2, 1, 0])

    def test_one_is_added_above_and_below(self):
        # 2 / 2 = 1, 5 / 4, though 1 / 1 is as much as 3 / 3, and 4 / 3 is more
        self.assertEqual(order([1, 1, 3, 4]), [2, 1, 0])
        # 3 / 2, 5 / 3, though 2 / 1 is as much as 4 / 2
        self.assertEqual(order([1, 2, 2, 4]), [2, 1, 0])
        # 2 / 2 = 1, 10 / 11, though 1 / 1 is more than 9 / 10
        self.assertEqual(order([10, 9, 1, 1]), [2, 1, 0])
        # 5 / 3, 8 / 5, though 4 / 2 is more than 7 / 4; 11 / 6
        self.assertEqual(order([2, 4, 4, 7, 5, 10]), [3, 2, 0, 1])

    def test_n_and_m_are_of_no_matter(self):
        # 10001, 1 / 10001, 1
        self.assertEqual(order([0, 10000, 10000, 0, 0, 0]), [3, 0, 2, 1])

    def test_small_words_as_fractions(self):
        """Every two words with numbers up to 5, and every three with numbers up to 2."""
        pairs = list(product(range(6), repeat=2))
        for some in product(pairs, repeat=2):
            with self.subTest(some=some):
                self.assertEqual(order(flat(some)), expected_order(some))
        pairs = list(product(range(3), repeat=2))
        for some in product(pairs, repeat=3):
            with self.subTest(some=some):
                self.assertEqual(order(flat(some)), expected_order(some))

    def test_many_words_as_fractions(self):
        """The same words in every run, since the source of them is given its seed."""
        source = random.Random(9)
        for most in (1, 2, 5, 20, 100, 10000):
            for count in (4, 7, 16, 39, 40):
                some = [(source.randint(0, most), source.randint(0, most)) for _ in range(count)]
                with self.subTest(some=some):
                    self.assertEqual(order(flat(some)), expected_order(some))


class Corners(unittest.TestCase):

    def test_no_words(self):
        self.assertEqual(order([]), [0])

    def test_one_word(self):
        for a, b in [(0, 0), (0, 1), (1, 0), (3, 5), (0, 10000), (10000, 0), (10000, 10000)]:
            with self.subTest(a=a, b=b):
                self.assertEqual(order([a, b]), [1, 0])

    def test_forty_words(self):
        upwards = list(range(40))
        # 1, 2, .. 40
        self.assertEqual(order(words([0] * 40, upwards)), [40] + upwards[::-1])
        # 40, 39, .. 1
        self.assertEqual(order(words([0] * 40, upwards[::-1])), [40] + upwards)
        # 1 / 1, 1 / 2, .. 1 / 40
        self.assertEqual(order(words(upwards, [0] * 40)), [40] + upwards)
        # 1 / 40, 1 / 39, .. 1 / 1
        self.assertEqual(order(words(upwards[::-1], [0] * 40)), [40] + upwards[::-1])

    def test_the_first_and_the_last_of_forty_words_count(self):
        between = list(range(1, 39))
        # 1, 2 of all between, 3
        self.assertEqual(order([0, 0] + [0, 1] * 38 + [0, 2]), [40, 39] + between + [0])
        # 3, 2 of all between, 1
        self.assertEqual(order([0, 2] + [0, 1] * 38 + [0, 0]), [40, 0] + between + [39])

    def test_just_as_loud_with_other_numbers(self):
        for alike in [
            [(0, 0), (1, 1)],
            [(1, 3), (3, 7)],
            [(1, 0), (3, 1)],
            [(0, 0), (10000, 10000)],
            [(9999, 4999), (1, 0)],
            [(0, 0), (1, 1), (2, 2), (10000, 10000)],
            [(0, 2), (1, 5), (2, 8), (3332, 9998)],
        ]:
            for some in permutations(alike):
                with self.subTest(some=some):
                    self.assertEqual(order(flat(some)), [len(some)] + list(range(len(some))))

    def test_just_as_loud_wherever_they_stand(self):
        # 1, 2, 1, 1 / 2
        self.assertEqual(order([0, 0, 0, 1, 1, 1, 1, 0]), [4, 1, 0, 2, 3])
        # 1, 2, 1, 1 / 2, the like ones changed for one another
        self.assertEqual(order([1, 1, 0, 1, 0, 0, 1, 0]), [4, 1, 0, 2, 3])
        # 2, 1, 2, 3, 2, 1
        self.assertEqual(order([1, 3, 4, 4, 3, 7, 0, 2, 0, 1, 0, 0]), [6, 3, 0, 2, 4, 1, 5])
        self.assertEqual(order([0, 1, 0, 0, 1, 3, 0, 2, 3, 7, 4, 4]), [6, 3, 0, 2, 4, 1, 5])
        # 3, 1 / 3, 1, 3, 1 / 3, 1
        self.assertEqual(order([0, 2, 2, 0, 0, 0, 1, 5, 5, 1, 7, 7]), [6, 0, 3, 2, 5, 1, 4])

    def test_just_as_loud_at_both_ends_of_forty_words(self):
        between = list(range(1, 39))
        # 2, 1 of all between, 2
        self.assertEqual(order([1, 3] + [0, 0] * 38 + [3, 7]), [40, 0, 39] + between)
        self.assertEqual(order([3, 7] + [0, 0] * 38 + [1, 3]), [40, 0, 39] + between)
        # 2, 3 of all between, 2
        self.assertEqual(order([1, 3] + [0, 2] * 38 + [3, 7]), [40] + between + [0, 39])
        self.assertEqual(order([3, 7] + [0, 2] * 38 + [1, 3]), [40] + between + [0, 39])

    def test_forty_words_that_are_just_as_loud(self):
        upwards = list(range(40))
        self.assertEqual(order(words(upwards, upwards)), [40] + upwards)
        self.assertEqual(order(words(upwards[::-1], upwards[::-1])), [40] + upwards)

    def test_the_same_word_several_times(self):
        self.assertEqual(order([2, 5] * 2), [2, 0, 1])
        self.assertEqual(order([2, 5] * 3), [3, 0, 1, 2])
        self.assertEqual(order([2, 5] * 40), [40] + list(range(40)))
        # 2, 3, 2, 3, 1
        self.assertEqual(order([2, 5, 2, 8, 2, 5, 2, 8, 2, 2]), [5, 1, 3, 0, 2, 4])

    def test_a_word_in_no_letter_that_was_taught(self):
        # It's as loud as 1.
        self.assertEqual(order([0, 0, 0, 0]), [2, 0, 1])
        self.assertEqual(order([0, 0, 4, 4]), [2, 0, 1])
        self.assertEqual(order([4, 4, 0, 0]), [2, 0, 1])
        # 1, 6 / 5, 5 / 6
        self.assertEqual(order([0, 0, 4, 5, 5, 4]), [3, 1, 0, 2])
        # 1, 10001 / 10000, 10000 / 10001
        self.assertEqual(order([0, 0, 9999, 10000, 10000, 9999]), [3, 1, 0, 2])
        # 10000 / 10001, 1, 10001 / 10000
        self.assertEqual(order([10000, 9999, 0, 0, 9999, 10000]), [3, 2, 1, 0])

    def test_next_to_each_other_with_numbers_near_10000(self):
        # 10001 * 9999 = 99999999, 10000 * 10000 = 100000000
        self.assertEqual(order([9999, 10000, 9998, 9999]), [2, 1, 0])
        self.assertEqual(order([9998, 9999, 9999, 10000]), [2, 0, 1])
        # 10000 * 10000 = 100000000, 9999 * 10001 = 99999999
        self.assertEqual(order([10000, 9999, 9999, 9998]), [2, 0, 1])
        self.assertEqual(order([9999, 9998, 10000, 9999]), [2, 1, 0])
        # 10001 / 10000, 10000 / 9999, 1, 9999 / 10000, 10000 / 10001
        self.assertEqual(
            order([9999, 10000, 9998, 9999, 9999, 9999, 9999, 9998, 10000, 9999]),
            [5, 1, 0, 2, 4, 3],
        )

    def test_next_to_each_other_where_it_is_loud_and_where_it_is_not(self):
        # 10000, 10001, 9999
        self.assertEqual(order([0, 9999, 0, 10000, 0, 9998]), [3, 1, 0, 2])
        # 1 / 10000, 1 / 10001, 1 / 9999
        self.assertEqual(order([9999, 0, 10000, 0, 9998, 0]), [3, 2, 0, 1])
        # 3334 * 6667 = 22227778, 3333 * 6669 = 22227777
        self.assertEqual(order([6668, 3333, 6666, 3332]), [2, 0, 1])
        self.assertEqual(order([6666, 3332, 6668, 3333]), [2, 1, 0])


class Refusals(unittest.TestCase):
    """Beside each refusal stands what is just allowed."""

    def refused(self, l):
        with self.subTest(l=l):
            self.assertEqual(order(l), REFUSED)

    def test_more_than_40_words(self):
        for word in ([0, 0], [3, 5], [10000, 10000]):
            with self.subTest(word=word):
                self.assertEqual(order(word * 40), [40] + list(range(40)))
            self.refused(word * 41)
            self.refused(word * 42)

    def test_an_a_above_10000(self):
        self.assertEqual(order([10000, 0]), [1, 0])
        # 1 / 10001, 1
        self.assertEqual(order([10000, 0, 0, 0]), [2, 1, 0])
        for a in (10001, 10002, 65536, LARGEST - 1, LARGEST):
            self.refused([a, 0])
            self.refused([a, 10000])
            self.refused([a, 0, 0, 0])
            self.refused([0, 0, a, 0])

    def test_a_b_above_10000(self):
        self.assertEqual(order([0, 10000]), [1, 0])
        # 1, 10001
        self.assertEqual(order([0, 0, 0, 10000]), [2, 1, 0])
        for b in (10001, 10002, 65536, LARGEST - 1, LARGEST):
            self.refused([0, b])
            self.refused([10000, b])
            self.refused([0, b, 0, 0])
            self.refused([0, 0, 0, b])

    def test_an_a_or_b_is_looked_at_in_every_place(self):
        self.assertEqual(order([10000, 10000] * 40), [40] + list(range(40)))
        for place in range(80):
            some = [10000, 10000] * 40
            some[place] = 10001
            self.refused(some)

    def test_an_odd_length(self):
        for length in range(1, 84, 2):
            self.refused([0] * length)
        for length in range(0, 81, 2):
            with self.subTest(length=length):
                self.assertEqual(order([0] * length), [length // 2] + list(range(length // 2)))

    def test_the_largest_number_in_every_place(self):
        self.refused([LARGEST])
        self.refused([LARGEST, LARGEST])
        self.refused([LARGEST, 0])
        self.refused([0, LARGEST])
        self.refused([LARGEST] * 80)
        self.refused([LARGEST] * 84)

    def test_several_at_once(self):
        self.refused([10001, 10001])
        self.refused([10001])
        self.refused([10001, 10001, 0])
        self.refused([0, 0, 10001])
        self.refused([0] * 81)
        self.refused([0] * 83)
        self.refused([10001, 0] * 41)
        self.refused([0, 10001] * 42)
        self.refused([10001] * 81)
        self.refused([10001] * 83)
        self.refused([LARGEST] * 83)


class TheInterface(unittest.TestCase):

    CALLS = [
        [],
        [3, 5],
        [0, 1, 1, 0, 0, 0],
        [1, 3, 3, 7],
        [10000, 10000] * 40,
        [3, 5, 0],
        [10001, 0],
        [0, 10001],
        [0, 0] * 41,
        [LARGEST] * 84,
    ]
    ANSWERS = [[0], [1, 0], [3, 0, 2, 1], [2, 0, 1], [40] + list(range(40))] + [REFUSED] * 5

    def test_its_argument(self):
        parameters = list(inspect.signature(order).parameters.values())
        self.assertEqual([p.name for p in parameters], ["l"])
        for parameter in parameters:
            self.assertIs(parameter.kind, inspect.Parameter.POSITIONAL_OR_KEYWORD)
            self.assertIs(parameter.default, inspect.Parameter.empty)
        self.assertEqual(order(l=[1, 0, 0, 1]), [2, 1, 0])

    def test_it_gives_back_a_list_of_whole_numbers(self):
        for l in self.CALLS:
            with self.subTest(l=l):
                answer = order(list(l))
                self.assertIs(type(answer), list)
                self.assertEqual({type(number) for number in answer}, {int})

    def test_the_list_is_afterwards_as_it_was(self):
        for l in self.CALLS:
            with self.subTest(l=l):
                handed = list(l)
                order(handed)
                self.assertEqual(handed, l)

    def test_the_list_is_not_changed_for_a_while_either(self):
        for l, expected in zip(self.CALLS, self.ANSWERS, strict=True):
            with self.subTest(l=l):
                self.assertEqual(order(LockedList(l)), expected)

    def test_a_second_call_answers_the_same(self):
        first = [order(list(l)) for l in self.CALLS]
        again = [order(list(l)) for l in reversed(self.CALLS)]
        self.assertEqual(first, self.ANSWERS)
        self.assertEqual(again[::-1], self.ANSWERS)

    def test_the_same_call_twice_in_a_row_answers_the_same(self):
        for l, expected in zip(self.CALLS, self.ANSWERS, strict=True):
            with self.subTest(l=l):
                handed = list(l)
                self.assertEqual(order(handed), expected)
                self.assertEqual(order(handed), expected)

    def test_the_same_list_changed_between_is_read_anew(self):
        some = [0, 1, 1, 0]
        self.assertEqual(order(some), [2, 0, 1])
        # 2, 7 / 2
        some[3] = 6
        self.assertEqual(order(some), [2, 1, 0])
        some.clear()
        self.assertEqual(order(some), [0])

    def test_an_answer_that_is_changed_does_not_come_back(self):
        for l, expected in zip(self.CALLS, self.ANSWERS, strict=True):
            with self.subTest(l=l):
                order(list(l)).append(7)
                self.assertEqual(order(list(l)), expected)

    def test_what_is_handed_in_does_not_come_back(self):
        for l in ([], [1, 0], [2, 0, 1, 2]):
            with self.subTest(l=l):
                self.assertIsNot(order(l), l)

    def test_it_and_the_other_calls_do_not_touch_one_another(self):
        some = [2, 1, 1, 2]
        for _ in range(2):
            # 2 / 3, 3 / 2
            self.assertEqual(order(some), [2, 1, 0])
            # 4 * 3 * 2 * 7 * 7 = 1176, 6 * 2 * 3 * 5 * 5 = 900: 900000 / 2076 = 433.5
            self.assertEqual(chance(3, 5, some), [433])
            self.assertEqual(told(2, 3, 5, some), [0])
            self.assertEqual(says(3, 5, 1, 2), [2])
            self.assertEqual(order(some + [10001]), REFUSED)

    def test_it_prints_nothing(self):
        out, err = io.StringIO(), io.StringIO()
        with contextlib.redirect_stdout(out), contextlib.redirect_stderr(err):
            for l in self.CALLS:
                order(list(l))
        self.assertEqual((out.getvalue(), err.getvalue()), ("", ""))


if __name__ == "__main__":
    unittest.main()
