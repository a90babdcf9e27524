"""What the document promises over the whole program (point 3), for many letters."""

import random
import unittest
from itertools import groupby, permutations, product

from helpers import flat, odds, pairs_of, words

from unwantedmail.desk import chance, order, says, told

TIMES = (1, 2, 3, 4, 9, 10, 100, 999, 1000)


def small_letters():
    """Every letter of up to two words, of up to three letters taught of each side."""
    for n, m in product(range(4), repeat=2):
        pairs = list(product(range(n + 1), range(m + 1)))
        for letter in [[]] + [[p] for p in pairs] + [[p, q] for p in pairs for q in pairs]:
            yield n, m, flat(letter)


def large_letters():
    """The same letters in every run, since the source of them is given its seed."""
    source = random.Random(3)
    for most in (1, 5, 40, 1000, 10000):
        for count in (0, 1, 2, 3, 10, 39, 40):
            for _ in range(6):
                n, m = source.randint(0, most), source.randint(0, most)
                yield n, m, words(
                    [source.randint(0, n) for _ in range(count)],
                    [source.randint(0, m) for _ in range(count)],
                )


def near_letters():
    """Letters that are just as likely, or nearly so, wanted as unwanted."""
    # With y = 9980 * 9980, (y - 1)(y - 121)(y - 144) is by 201600 greater than
    # (y - 16)(y - 81)(y - 169): one part in about 5 * 10 to the power of 18.
    greater = [9980 + step - 1 for step in (1, -1, 11, -11, 12, -12)]
    lesser = [9980 + step - 1 for step in (4, -4, 9, -9, 13, -13)]
    yield 10000, 10000, words(greater, lesser)
    yield 10000, 10000, words(lesser, greater)
    yield 10000, 10000, words(greater * 6, lesser * 6)
    yield 10000, 10000, words(lesser * 6, greater * 6)
    for n, m in [(9999, 10000), (10000, 9999), (10000, 10000), (998, 1000), (1000, 998)]:
        yield n, m, []
        yield n, m, [n, m]
        yield n, m, [0, 0] * 40
    # 2 * (2 * 9) * (2 * 9) = 648, 8 * (3 * 3) * (3 * 3) = 648
    yield 1, 7, [1, 2, 1, 2]
    yield 7, 1, [2, 1, 2, 1]
    yield 0, 0, []
    yield 0, 0, [0, 0] * 40


def letters():
    yield from small_letters()
    yield from large_letters()
    yield from near_letters()


def from_the_other_side(l):
    return flat([(b, a) for a, b in pairs_of(l)])


def likelihood(n, m, l):
    """All that's told of how likely the letter is unwanted, by chance and by told."""
    return chance(n, m, l) + [number for t in TIMES for number in told(t, n, m, l)]


class TheLettersHere(unittest.TestCase):

    def test_there_are_some_of_every_kind(self):
        some = list(letters())
        self.assertGreater(len(some), 1000)
        self.assertEqual({told(t, n, m, l)[0] for t in TIMES for n, m, l in some}, {0, 1, 2})
        self.assertTrue({0, 499, 500, 999} <= {chance(n, m, l)[0] for n, m, l in some})
        self.assertTrue({0, 1, 2, 39, 40} <= {len(l) // 2 for _, _, l in some})
        self.assertGreater(len([l for n, m, l in some if odds(n, m, l) == 1]), 40)


class FromTheOtherSide(unittest.TestCase):

    def test_it_is_as_likely_as_it_is_unlikely_to_a_thousandth(self):
        for n, m, l in letters():
            with self.subTest(n=n, m=m, l=l):
                both = chance(n, m, l)[0] + chance(m, n, from_the_other_side(l))[0]
                self.assertIn(both, (999, 1000))

    def test_worked_out_by_hand(self):
        # 4 * 2 * 7 = 56, 6 * 3 * 5 = 90: 90000 / 146 = 616.4 and 56000 / 146 = 383.6
        self.assertEqual(chance(3, 5, [1, 2]), [616])
        self.assertEqual(chance(5, 3, [2, 1]), [383])
        # 10 * 1 * 6 = 60, 5 * 4 * 11 = 220, 220000 / 280 = 785.7 and 60000 / 280 = 214.3
        self.assertEqual(chance(9, 4, [0, 3]), [785])
        self.assertEqual(chance(4, 9, [3, 0]), [214])
        # 4, 6: 600 and 400
        self.assertEqual(chance(3, 5, []), [600])
        self.assertEqual(chance(5, 3, []), [400])

    def test_not_both_sides_are_likelier_than_not(self):
        for n, m, l in letters():
            with self.subTest(n=n, m=m, l=l):
                both = told(2, n, m, l)[0], told(2, m, n, from_the_other_side(l))[0]
                self.assertIn(0, both)
                self.assertEqual(both == (0, 0), odds(n, m, l) == 1)

    def test_a_word_says_the_opposite(self):
        opposite = {2: 1, 1: 2, 0: 0}
        for n, m in product(range(6), repeat=2):
            for a, b in product(range(n + 1), range(m + 1)):
                with self.subTest(n=n, m=m, a=a, b=b):
                    self.assertEqual(says(m, n, b, a)[0], opposite[says(n, m, a, b)[0]])

    def test_the_louder_a_word_the_less_loud_it_is(self):
        # 3, 1 / 2, 1, 10, 2 / 3
        self.assertEqual(order([0, 2, 1, 0, 4, 4, 0, 9, 2, 1]), [5, 3, 0, 2, 4, 1])
        self.assertEqual(order([2, 0, 0, 1, 4, 4, 9, 0, 1, 2]), [5, 1, 4, 2, 0, 3])


class AWordMore(unittest.TestCase):

    WORDS = (0, 1, 2, 20, 9999, 10000)

    def words_more(self, n, m):
        for a, b in product(self.WORDS, repeat=2):
            if a <= n and b <= m:
                yield a, b

    def test_it_says_what_it_says(self):
        for n, m, l in letters():
            if len(l) == 80:
                continue
            before = likelihood(n, m, l)
            for a, b in self.words_more(n, m):
                with self.subTest(n=n, m=m, l=l, a=a, b=b):
                    after = likelihood(n, m, l + [a, b])
                    what = says(n, m, a, b)
                    if what != [1]:
                        self.assertTrue(all(x >= y for x, y in zip(after, before)))
                    if what != [2]:
                        self.assertTrue(all(x <= y for x, y in zip(after, before)))

    def test_where_it_stood_just_as_likely_the_word_tells(self):
        """A letter that was just as likely is, with a word more, what this word says."""
        for n, m, l in letters():
            if len(l) == 80 or odds(n, m, l) != 1:
                continue
            # What's told of it with a t of 1, and whether it's likelier than not.
            told_by = {2: (2, True), 1: (0, False), 0: (2, False)}
            for a, b in self.words_more(n, m):
                with self.subTest(n=n, m=m, l=l, a=a, b=b):
                    after = told(1, n, m, l + [a, b])[0], told(2, n, m, l + [a, b])[0] > 0
                    self.assertEqual(after, told_by[says(n, m, a, b)[0]])

    def test_wherever_the_word_is_put(self):
        for n, m, l in [(3, 5, [1, 2, 3, 0, 0, 4]), (10000, 10000, [7, 5, 10000, 10000, 0, 1] * 13)]:
            for a, b in self.words_more(n, m):
                for place in range(0, len(l) + 1, 2):
                    with self.subTest(n=n, m=m, l=l, a=a, b=b, place=place):
                        self.assertEqual(
                            likelihood(n, m, l[:place] + [a, b] + l[place:]),
                            likelihood(n, m, l + [a, b]),
                        )

    def test_worked_out_by_hand(self):
        # 56, 90; 90000 / 146 = 616.4
        self.assertEqual(chance(3, 5, [1, 2]), [616])
        # 14 and 15: it says unwanted. 784, 1350: 1350000 / 2134 = 632.6
        self.assertEqual(says(3, 5, 1, 2), [2])
        self.assertEqual(chance(3, 5, [1, 2, 1, 2]), [632])
        # 7 and 5: it says wanted. 392, 450: 450000 / 842 = 534.4
        self.assertEqual(says(3, 5, 0, 0), [1])
        self.assertEqual(chance(3, 5, [1, 2, 0, 0]), [534])
        # 18 and 18: it says neither. 2, 8: 800
        self.assertEqual(says(1, 7, 1, 5), [0])
        self.assertEqual(chance(1, 7, []), [800])
        self.assertEqual(chance(1, 7, [1, 5]), [800])


class TaughtAsUnwanted(unittest.TestCase):

    def taught_as_unwanted(self, n, m, l):
        """n, m and the letter's words, once it has been taught: each word is in an unwanted letter more."""
        return n, m + 1, flat([(a, b + 1) for a, b in pairs_of(l)])

    def taught_as_wanted(self, n, m, l):
        return n + 1, m, flat([(a + 1, b) for a, b in pairs_of(l)])

    def test_it_is_no_less_likely_unwanted_than_before(self):
        for n, m, l in letters():
            if m == 10000:
                continue
            with self.subTest(n=n, m=m, l=l):
                after = likelihood(*self.taught_as_unwanted(n, m, l))
                self.assertTrue(all(x >= y for x, y in zip(after, likelihood(n, m, l))))

    def test_nor_is_it_when_it_is_taught_again_and_again(self):
        for letter in [(0, 0, []), (9, 0, [9, 0, 4, 0]), (3, 2, [0, 2, 3, 2, 3, 0]), (50, 0, [50, 0] * 40)]:
            for _ in range(60):
                taught = self.taught_as_unwanted(*letter)
                with self.subTest(letter=letter):
                    self.assertTrue(all(x >= y for x, y in zip(likelihood(*taught), likelihood(*letter))))
                letter = taught
            self.assertGreater(told(2, *letter)[0], 0)

    def test_taught_as_wanted_it_is_no_likelier_unwanted_than_before(self):
        for n, m, l in letters():
            if n == 10000:
                continue
            with self.subTest(n=n, m=m, l=l):
                after = likelihood(*self.taught_as_wanted(n, m, l))
                self.assertTrue(all(x <= y for x, y in zip(after, likelihood(n, m, l))))

    def test_worked_out_by_hand(self):
        # 56, 90: 616.4; taught, 4 * 2 * 8 = 64, 7 * 4 * 5 = 140: 140000 / 204 = 686.3
        self.assertEqual(chance(3, 5, [1, 2]), [616])
        self.assertEqual(chance(3, 6, [1, 3]), [686])
        # 1, 10000: 999.9; 1, 10001: 999.9
        self.assertEqual(chance(0, 9999, []), [999])
        self.assertEqual(chance(0, 10000, []), [999])
        # 1 * 1 * 2 = 2, 1 * 1 * 2 = 2: 500; taught, 1 * 1 * 3 = 3, 2 * 2 * 2 = 8: 8000 / 11 = 727.3
        self.assertEqual(chance(0, 0, [0, 0]), [500])
        self.assertEqual(chance(0, 1, [0, 1]), [727])


class InWhateverOrderWordsStand(unittest.TestCase):

    def test_all_orders_of_few_words(self):
        for n, m, pairs in [
            (2, 4, [(0, 4), (1, 2), (2, 0)]),
            (5, 3, [(5, 0), (0, 3), (5, 3), (0, 0)]),
            (10000, 9999, [(10000, 0), (0, 9999), (1, 1), (9999, 9998), (4, 4)]),
        ]:
            expected = likelihood(n, m, flat(pairs))
            for some in permutations(pairs):
                with self.subTest(n=n, m=m, some=some):
                    self.assertEqual(likelihood(n, m, flat(some)), expected)

    def test_some_orders_of_many_words(self):
        source = random.Random(5)
        for n, m, l in letters():
            expected = likelihood(n, m, l)
            pairs = pairs_of(l)
            for some in (pairs[::-1], pairs[1:] + pairs[:1], source.sample(pairs, len(pairs)), sorted(pairs)):
                with self.subTest(n=n, m=m, some=some):
                    self.assertEqual(likelihood(n, m, flat(some)), expected)

    def test_worked_out_by_hand(self):
        # 3888, 4800: 552.5
        for l in ([0, 4, 1, 2, 2, 0], [2, 0, 0, 4, 1, 2], [1, 2, 2, 0, 0, 4]):
            with self.subTest(l=l):
                self.assertEqual(chance(2, 4, l), [552])
                self.assertEqual(told(1, 2, 4, l), [2])
                self.assertEqual(told(2, 2, 4, l), [1])


class LikelierThanNot(unittest.TestCase):

    def test_in_doubt_or_unwanted_is_just_what_is_likelier_than_not(self):
        for n, m, l in letters():
            likelier = odds(n, m, l) > 1
            for t in TIMES[1:]:
                with self.subTest(t=t, n=n, m=m, l=l):
                    self.assertEqual(told(t, n, m, l)[0] > 0, likelier)

    def test_it_is_what_chance_says(self):
        for n, m, l in letters():
            with self.subTest(n=n, m=m, l=l):
                # Of 500 thousandths it may be just as likely, or a little likelier.
                if chance(n, m, l)[0] != 500:
                    self.assertEqual(told(2, n, m, l)[0] > 0, chance(n, m, l)[0] > 500)
                elif chance(m, n, from_the_other_side(l))[0] != 500:
                    self.assertGreater(told(2, n, m, l)[0], 0)
                else:
                    self.assertEqual(told(2, n, m, l), [0])

    def test_just_as_likely_is_wanted_but_where_t_is_1(self):
        for n, m, l in [(0, 0, []), (7, 7, [3, 3]), (1, 7, [1, 2, 1, 2]), (10000, 10000, [0, 0] * 40)]:
            with self.subTest(n=n, m=m, l=l):
                self.assertEqual(chance(n, m, l), [500])
                self.assertEqual([told(t, n, m, l) for t in (1, 2, 3, 1000)], [[2], [0], [0], [0]])

    def test_a_little_likelier_is_in_doubt(self):
        # 10000, 10001: 10001000 / 20001 = 500.02
        self.assertEqual(chance(9999, 10000, []), [500])
        self.assertEqual([told(t, 9999, 10000, []) for t in (1, 2, 3, 1000)], [[2], [1], [1], [1]])
        # 10001, 10000
        self.assertEqual([told(t, 10000, 9999, []) for t in (1, 2, 3, 1000)], [[0], [0], [0], [0]])


class TheMoreIsAsked(unittest.TestCase):

    def test_the_less_is_told(self):
        for n, m, l in letters():
            with self.subTest(n=n, m=m, l=l):
                answers = [told(t, n, m, l) for t in TIMES]
                self.assertEqual(answers, sorted(answers, reverse=True))

    def test_for_every_t(self):
        """In the remarks: the weight for wanted, and the weight for unwanted."""
        for n, m, l, expected in [
            # 10, 5010
            (9, 5009, [], [(2, 501), (1, 499)]),
            # 56, 90
            (3, 5, [1, 2], [(2, 1), (1, 999)]),
            # 2, 2
            (0, 0, [0, 0], [(2, 1), (0, 999)]),
            # 90, 56
            (5, 3, [2, 1], [(0, 1000)]),
            # 1, 1000
            (0, 999, [], [(2, 1000)]),
            # 1, 999
            (0, 998, [], [(2, 999), (1, 1)]),
        ]:
            with self.subTest(n=n, m=m, l=l):
                answers = [told(t, n, m, l)[0] for t in range(1, 1001)]
                # Which answer stands how many times in a row.
                self.assertEqual([(answer, len(list(row))) for answer, row in groupby(answers)], expected)


class TheInterface(unittest.TestCase):

    def test_each_function_is_written_where_it_is_called(self):
        for function in (chance, told, says, order):
            with self.subTest(function=function.__name__):
                self.assertEqual(function.__module__, "unwantedmail.desk")


if __name__ == "__main__":
    unittest.main()
