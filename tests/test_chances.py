"""The calls at one chance: yes, swayat, slope, tries."""

import unittest
from fractions import Fraction
from itertools import product

from tests.line import NEGATED
from tests.line import asked, begin, bit, fast, least, likely, odd, other_answers, rising_answers, run, slope, sway
from tests.line import swayat, told, tries, two_numbers, yes

CHANCES = [(0, 1), (1, 1), (0, 100), (100, 100), (1, 2), (2, 4), (1, 3), (2, 3), (3, 10), (37, 100), (50, 100),
           (1, 100), (99, 100)]

ALL_ANSWERS = rising_answers() + other_answers()


def answered(fraction):
    return [0] + two_numbers(fraction)


class Yes(unittest.TestCase):
    def test_one_bit_is_as_likely_as_the_chance(self):
        self.assertEqual(run(begin(1), bit(0), yes(1, 3), NEGATED, yes(1, 3))[2::2], [[0, 1, 3], [0, 2, 3]])
        self.assertEqual(run(begin(5), bit(4), yes(30, 100), NEGATED, yes(30, 100))[2::2], [[0, 3, 10], [0, 7, 10]])

    def test_two_bits(self):
        for words, fraction in [([0], [4, 9]), ([1], [2, 9]), ([2], [2, 9]), ([3], [1, 9]), ([1, 2], [4, 9]),
                                ([0, 3], [5, 9]), ([1, 3], [1, 3]), ([1, 2, 3], [5, 9])]:
            self.assertEqual(asked(2, words, yes(1, 3)), [[0] + fraction])

    def test_the_most_of_three_and_of_five(self):
        self.assertEqual(run(begin(3), least(2, [1] * 3), yes(1, 3), yes(1, 2))[2:], [[0, 7, 27], [0, 1, 2]])
        self.assertEqual(run(begin(5), least(3, [1] * 5), yes(1, 2), yes(1, 3))[2:], [[0, 1, 2], [0, 17, 81]])

    def test_all_bits_needed(self):
        for n in range(1, 6):
            self.assertEqual(run(begin(n), least(n, [1] * n), yes(2, 3))[-1], [0, 2 ** n, 3 ** n])

    def test_no_to_all_and_yes_to_all(self):
        for n in range(1, 6):
            for a, b in CHANCES:
                self.assertEqual(run(begin(n), yes(a, b), NEGATED, yes(a, b))[1::2], [[0, 0, 1], [0, 1, 1]])

    def test_a_chance_of_0_has_the_first_word_alone_and_of_1_the_last(self):
        for n, words in ALL_ANSWERS:
            first = [0, 1, 1] if 0 in words else [0, 0, 1]
            last = [0, 1, 1] if 2 ** n - 1 in words else [0, 0, 1]
            self.assertEqual(asked(n, words, yes(0, 1), yes(0, 100), yes(1, 1), yes(100, 100)),
                             [first, first, last, last])

    def test_the_same_chance_told_otherwise(self):
        self.assertEqual(asked(3, [1, 2, 7], yes(1, 2), yes(2, 4), yes(50, 100)), [[0, 3, 8]] * 3)

    def test_many_answers_and_chances_word_by_word(self):
        for n, words in ALL_ANSWERS:
            self.assertEqual(asked(n, words, *[yes(a, b) for a, b in CHANCES]),
                             [answered(likely(n, words, Fraction(a, b))) for a, b in CHANCES], words)


class Swayat(unittest.TestCase):
    def test_one_bit_sways_everywhere_and_the_others_nowhere(self):
        for n in range(1, 6):
            for i in range(n):
                self.assertEqual(run(begin(n), bit(i), *[swayat(j, 1, 7) for j in range(n)])[2:],
                                 [[0, 1, 1] if j == i else [0, 0, 1] for j in range(n)])

    def test_the_most_of_three(self):
        self.assertEqual(run(begin(3), least(2, [1] * 3), swayat(0, 1, 2), swayat(1, 1, 3), swayat(2, 0, 1))[2:],
                         [[0, 1, 2], [0, 4, 9], [0, 0, 1]])

    def test_bits_of_unlike_weight(self):
        # Yes if bit 0 is set, or both others: bit 0 sways unless both others are set, and they if bit 0 is not.
        self.assertEqual(asked(3, [1, 3, 5, 6, 7], swayat(0, 1, 3), swayat(1, 1, 3), swayat(2, 1, 3)),
                         [[0, 8, 9], [0, 2, 9], [0, 2, 9]])

    def test_an_odd_number_of_bits_sways_by_each_of_them(self):
        self.assertEqual(run(begin(4), odd(11), *[swayat(i, 3, 10) for i in range(4)])[2:],
                         [[0, 1, 1], [0, 1, 1], [0, 0, 1], [0, 1, 1]])

    def test_no_to_all_and_yes_to_all(self):
        for n in range(1, 6):
            for i in range(n):
                self.assertEqual(run(begin(n), swayat(i, 1, 2), NEGATED, swayat(i, 1, 2))[1::2], [[0, 0, 1]] * 2)

    def test_many_answers_and_chances_word_by_word(self):
        for n, words in ALL_ANSWERS:
            for i in range(n):
                self.assertEqual(asked(n, words, *[swayat(i, a, b) for a, b in CHANCES]),
                                 [answered(sway(n, words, i, Fraction(a, b))) for a, b in CHANCES], words)


class Slope(unittest.TestCase):
    def test_one_bit_rises_as_the_chance_does(self):
        for n in range(1, 6):
            for a, b in CHANCES:
                self.assertEqual(run(begin(n), bit(n - 1), slope(a, b), NEGATED, slope(a, b))[2::2],
                                 [[0, 1, 1], [0, -1, 1]])

    def test_no_to_all_and_yes_to_all(self):
        for n in range(1, 6):
            for a, b in CHANCES:
                self.assertEqual(run(begin(n), slope(a, b), NEGATED, slope(a, b))[1::2], [[0, 0, 1]] * 2)

    def test_an_odd_number_of_two_bits_rises_and_falls_again(self):
        # 2 p (1 - p) rises by 2 - 4 p.
        self.assertEqual(run(begin(2), odd(3), *[slope(a, 8) for a in range(9)])[2:],
                         [[0, 2, 1], [0, 3, 2], [0, 1, 1], [0, 1, 2], [0, 0, 1],
                          [0, -1, 2], [0, -1, 1], [0, -3, 2], [0, -2, 1]])

    def test_all_bits_needed(self):
        for n in range(1, 6):
            self.assertEqual(run(begin(n), least(n, [1] * n), slope(0, 1), slope(2, 3), slope(1, 1))[2:],
                             [[0, 1 if n == 1 else 0, 1], answered(n * Fraction(2, 3) ** (n - 1)), [0, n, 1]])

    def test_no_bit_allowed_falls(self):
        for n in range(1, 6):
            self.assertEqual(asked(n, [0], slope(0, 1), slope(2, 3), slope(1, 1)),
                             [[0, -n, 1], answered(-n * Fraction(1, 3) ** (n - 1)), [0, -1 if n == 1 else 0, 1]])

    def test_the_most_of_five(self):
        self.assertEqual(run(begin(5), least(3, [1] * 5), slope(1, 2), slope(0, 1), slope(1, 100), slope(99, 100))[2:],
                         [[0, 15, 8], [0, 0, 1], answered(30 * Fraction(99, 10000) ** 2),
                          answered(30 * Fraction(99, 10000) ** 2)])

    def test_many_answers_and_chances_word_by_word(self):
        for n, words in ALL_ANSWERS:
            self.assertEqual(asked(n, words, *[slope(a, b) for a, b in CHANCES]),
                             [answered(fast(n, words, Fraction(a, b))) for a, b in CHANCES], words)


class Tries(unittest.TestCase):
    def test_one_try_is_as_yes_twice(self):
        for n, words in ALL_ANSWERS:
            for a, b in [(0, 1), (1, 1), (1, 3), (37, 100)]:
                one, once = asked(n, words, yes(a, b), tries(a, b, 1))
                self.assertEqual(once, one + one[1:])

    def test_two_tries_of_one_bit_are_alike(self):
        self.assertEqual(run(begin(1), bit(0), tries(1, 2, 2), tries(1, 3, 2))[2:], [[0, 3, 4, 3, 4], [0, 5, 9, 5, 9]])

    def test_two_tries_of_all_of_two_bits(self):
        self.assertEqual(asked(2, [3], tries(1, 2, 2)), [[0, 9, 16, 7, 16]])

    def test_two_tries_of_no_bit_are_less_likely_than_once(self):
        self.assertEqual(asked(2, [0], tries(1, 2, 2)), [[0, 1, 16, 7, 16]])

    def test_a_chance_of_0_and_of_1(self):
        for k in range(1, 7):
            self.assertEqual(asked(2, [0], tries(0, 9, k), tries(9, 9, k)), [[0, 1, 1, 1, 1], [0, 0, 1, 0, 1]])
            self.assertEqual(asked(2, [3], tries(0, 9, k), tries(9, 9, k)), [[0, 0, 1, 0, 1], [0, 1, 1, 1, 1]])

    def test_no_to_all_and_yes_to_all(self):
        for k in range(1, 7):
            self.assertEqual(run(begin(5), tries(1, 3, k), NEGATED, tries(1, 3, k))[1::2],
                             [[0, 0, 1, 0, 1], [0, 1, 1, 1, 1]])

    def test_tried_out_one_by_one(self):
        p = Fraction(1, 3)
        for n, k in [(1, 6), (2, 3), (3, 2)]:
            for words in [told_words for bits, told_words in ALL_ANSWERS if bits == n]:
                each = anew = Fraction(0)
                for tried in product(range(2 ** n), repeat=k):
                    chance = Fraction(1)
                    together = 0
                    for x in tried:
                        chance *= likely(n, [x], p)
                        together |= x
                    each += chance * (together in words)
                    anew += chance * any(x in words for x in tried)
                self.assertEqual(asked(n, words, tries(1, 3, k)), [[0] + two_numbers(each) + two_numbers(anew)])

    def test_many_answers_and_chances_word_by_word(self):
        for n, words in ALL_ANSWERS:
            for a, b in CHANCES:
                p = Fraction(a, b)
                self.assertEqual(asked(n, words, *[tries(a, b, k) for k in range(1, 7)]),
                                 [[0] + two_numbers(likely(n, words, 1 - (1 - p) ** k))
                                  + two_numbers(1 - (1 - likely(n, words, p)) ** k) for k in range(1, 7)])

    def test_numbers_above_2_to_the_power_of_64(self):
        replied = run(begin(5), least(5, [1] * 5), tries(99, 100, 6))[-1]
        self.assertEqual(replied, [0, (100 ** 6 - 1) ** 5, 100 ** 30, 100 ** 30 - (100 ** 5 - 99 ** 5) ** 6, 100 ** 30])
        self.assertTrue(all(number > 2 ** 64 for number in replied[1:]))


class AskedOnly(unittest.TestCase):
    def test_asking_changes_nothing(self):
        calls = [yes(1, 3), swayat(2, 1, 3), slope(1, 3), tries(1, 3, 4)]
        replied = run(begin(3), told([0, 3, 4]), *calls, *calls, *calls)[2:]
        self.assertEqual(replied[:4] * 3, replied)


if __name__ == "__main__":
    unittest.main()
