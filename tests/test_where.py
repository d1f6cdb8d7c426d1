"""The calls that look for a chance: half, width, steepest, fixed."""

import unittest
from fractions import Fraction

from tests.line import NEGATED
from tests.line import asked, begin, bit, fast, fixed, half, least, likely_by, odd, other_answers, rising_answers
from tests.line import run, steepest, told, two_numbers, width

SCALES = [1, 2, 3, 5, 8, 10]

ALL_ANSWERS = rising_answers() + other_answers()


def half_told(all_likely):
    return [min([a for a, p in enumerate(all_likely) if p >= Fraction(1, 2)], default=-33)]


def width_told(all_likely, u, v, w):
    start = min([a for a, p in enumerate(all_likely) if p >= Fraction(u, w)], default=None)
    end = min([a for a, p in enumerate(all_likely) if p >= Fraction(v, w)], default=None)
    return [-33] if start is None or end is None else [end - start, start, end]


def steepest_told(n, words, d):
    slopes = [fast(n, words, Fraction(a, d)) for a in range(d + 1)]
    return [slopes.index(max(slopes))] + two_numbers(max(slopes))


def fixed_told(n, words, d):
    found = [a for a, p in enumerate(likely_by(n, words, d)) if p == Fraction(a, d)]
    return [len(found)] + found


class Half(unittest.TestCase):
    def test_one_bit_is_a_half_in_the_middle(self):
        for d, least_a in [(1, 1), (2, 1), (3, 2), (4, 2), (5, 3), (99, 50), (100, 50)]:
            self.assertEqual(run(begin(1), bit(0), half(d))[-1], [least_a])

    def test_just_a_half_is_enough(self):
        self.assertEqual(run(begin(3), least(2, [1] * 3), half(10), half(9))[2:], [[5], [5]])
        self.assertEqual(run(begin(5), least(3, [1] * 5), half(100))[-1], [50])

    def test_all_bits_needed_is_a_half_later(self):
        for n, least_a in [(1, 50), (2, 71), (3, 80), (4, 85), (5, 88)]:
            self.assertEqual(run(begin(n), least(n, [1] * n), half(100))[-1], [least_a])

    def test_one_bit_enough_is_a_half_sooner(self):
        for n, least_a in [(2, 30), (3, 21), (4, 16), (5, 13)]:
            self.assertEqual(run(begin(n), least(1, [1] * n), half(100))[-1], [least_a])

    def test_no_to_all_has_none_and_yes_to_all_has_it_at_0(self):
        for n in range(1, 6):
            for d in (1, 2, 99, 100):
                self.assertEqual(run(begin(n), half(d), NEGATED, half(d))[1::2], [[-33], [0]])

    def test_a_falling_answer_has_it_at_0(self):
        self.assertEqual(asked(2, [0], half(1), half(5), half(100)), [[0], [0], [0]])

    def test_by_few_parts_it_may_be_missed(self):
        self.assertEqual(run(begin(2), odd(3), *[half(d) for d in range(1, 7)])[2:],
                         [[-33], [1], [-33], [2], [-33], [3]])

    def test_many_answers_by_many_parts(self):
        for n, words in ALL_ANSWERS:
            self.assertEqual(asked(n, words, *[half(d) for d in SCALES]),
                             [half_told(likely_by(n, words, d)) for d in SCALES], words)


class Width(unittest.TestCase):
    def test_one_bit_rises_all_along(self):
        self.assertEqual(run(begin(1), bit(0), width(4, 1, 3, 4), width(100, 1, 9, 10), width(10, 1, 99, 100))[2:],
                         [[2, 1, 3], [80, 10, 90], [9, 1, 10]])

    def test_the_most_of_three(self):
        self.assertEqual(run(begin(3), least(2, [1] * 3), width(10, 1, 4, 5), width(10, 1, 1, 2))[2:],
                         [[5, 3, 8], [0, 5, 5]])

    def test_all_bits_needed(self):
        self.assertEqual(run(begin(4), least(4, [1] * 4), width(10, 1, 4, 9))[-1], [3, 6, 9])

    def test_a_width_of_0(self):
        self.assertEqual(run(begin(3), least(2, [1] * 3), width(8, 1, 3, 4), width(8, 1, 1, 4), width(8, 3, 3, 4))[2:],
                         [[3, 3, 6], [0, 3, 3], [0, 6, 6]])
        self.assertEqual(run(begin(5), least(3, [1] * 5), width(1, 1, 2, 3), width(2, 40, 50, 100))[2:],
                         [[0, 1, 1], [0, 1, 1]])

    def test_a_chance_of_0_is_there_at_0_and_of_1_at_1(self):
        for w in (1, 2, 100):
            for d in (1, 7, 100):
                self.assertEqual(asked(3, [7], width(d, 0, w, w), width(d, 0, 0, w), width(d, w, w, w)),
                                 [[d, 0, d], [0, 0, 0], [0, d, d]])

    def test_yes_to_all(self):
        self.assertEqual(run(begin(2), NEGATED, width(3, 0, 1, 1), width(100, 1, 100, 100))[2:], [[0, 0, 0]] * 2)

    def test_none_for_both(self):
        self.assertEqual(run(begin(2), width(5, 1, 2, 2), width(5, 1, 1, 100))[1:], [[-33]] * 2)

    def test_none_for_one(self):
        self.assertEqual(run(begin(2), width(5, 0, 1, 100), width(5, 0, 0, 1))[1:], [[-33], [0, 0, 0]])
        self.assertEqual(run(begin(2), odd(3), width(4, 1, 2, 2), width(4, 0, 1, 2), width(4, 1, 2, 4))[2:],
                         [[-33], [2, 0, 2], [1, 1, 2]])

    def test_chances_by_other_parts_than_those_it_is_told_by(self):
        self.assertEqual(run(begin(1), bit(0), width(100, 1, 2, 3), width(3, 33, 34, 100))[2:],
                         [[33, 34, 67], [1, 1, 2]])

    def test_many_answers_by_many_parts(self):
        asked_for = [(u, v, w) for w in (1, 2, 3, 7) for u in range(w + 1) for v in range(u, w + 1)]
        for n, words in ALL_ANSWERS:
            for d in (1, 4, 9):
                all_likely = likely_by(n, words, d)
                for at in range(0, len(asked_for), 38):
                    some = asked_for[at:at + 38]
                    self.assertEqual(asked(n, words, *[width(d, u, v, w) for u, v, w in some]),
                                     [width_told(all_likely, u, v, w) for u, v, w in some], words)


class Steepest(unittest.TestCase):
    def test_the_most_rise_fastest_in_the_middle(self):
        self.assertEqual(run(begin(3), least(2, [1] * 3), steepest(10), steepest(100))[2:], [[5, 3, 2], [50, 3, 2]])
        self.assertEqual(run(begin(5), least(3, [1] * 5), steepest(100))[-1], [50, 15, 8])

    def test_of_like_ones_the_first(self):
        self.assertEqual(run(begin(3), least(2, [1] * 3), steepest(1), steepest(3), steepest(9))[2:],
                         [[0, 0, 1], [1, 4, 3], [4, 40, 27]])

    def test_all_bits_needed_rise_fastest_at_1(self):
        for n in range(2, 6):
            for d in (1, 7, 100):
                self.assertEqual(run(begin(n), least(n, [1] * n), steepest(d))[-1], [d, n, 1])

    def test_one_bit_rises_as_fast_everywhere(self):
        for n in range(1, 6):
            for d in (1, 7, 100):
                self.assertEqual(run(begin(n), bit(n - 1), steepest(d), NEGATED, steepest(d))[2::2],
                                 [[0, 1, 1], [0, -1, 1]])

    def test_no_to_all_and_yes_to_all(self):
        for d in (1, 2, 100):
            self.assertEqual(run(begin(4), steepest(d), NEGATED, steepest(d))[1::2], [[0, 0, 1]] * 2)

    def test_a_falling_answer_falls_least_fast(self):
        self.assertEqual(asked(2, [0], steepest(4), steepest(1)), [[4, 0, 1], [1, 0, 1]])
        self.assertEqual(asked(2, [0, 1], steepest(4)), [[0, -1, 1]])
        # It falls by 6 p (1 - p): neither at 0 nor at 1, of which 0 is the first.
        self.assertEqual(asked(3, [0, 1, 2, 4], steepest(5)), [[0, 0, 1]])

    def test_an_odd_number_of_bits_rises_fastest_at_0(self):
        self.assertEqual(run(begin(2), odd(3), steepest(4), NEGATED, steepest(4))[2::2], [[0, 2, 1], [4, 2, 1]])

    def test_many_answers_by_many_parts(self):
        for n, words in ALL_ANSWERS:
            self.assertEqual(asked(n, words, *[steepest(d) for d in SCALES]),
                             [steepest_told(n, words, d) for d in SCALES], words)


class Fixed(unittest.TestCase):
    def test_one_bit_is_fixed_everywhere(self):
        for n in range(1, 6):
            for d in (1, 2, 100):
                self.assertEqual(run(begin(n), bit(n - 1), fixed(d))[-1], [d + 1] + list(range(d + 1)))

    def test_no_to_all_at_0_and_yes_to_all_at_1(self):
        for n in range(1, 6):
            for d in (1, 2, 100):
                self.assertEqual(run(begin(n), fixed(d), NEGATED, fixed(d))[1::2], [[1, 0], [1, d]])

    def test_the_most_at_0_at_a_half_and_at_1(self):
        self.assertEqual(run(begin(3), least(2, [1] * 3), fixed(10), fixed(9), fixed(1))[2:],
                         [[3, 0, 5, 10], [2, 0, 9], [2, 0, 1]])
        self.assertEqual(run(begin(5), least(3, [1] * 5), fixed(100))[-1], [3, 0, 50, 100])

    def test_an_odd_number_of_bits(self):
        self.assertEqual(run(begin(2), odd(3), fixed(4), fixed(5))[2:], [[2, 0, 2], [1, 0]])
        self.assertEqual(run(begin(3), odd(7), fixed(2), fixed(100))[2:], [[3, 0, 1, 2], [3, 0, 50, 100]])

    def test_there_may_be_none(self):
        self.assertEqual(asked(1, [0], *[fixed(d) for d in range(1, 6)]), [[0], [1, 1], [0], [1, 2], [0]])

    def test_many_answers_by_many_parts(self):
        for n, words in ALL_ANSWERS:
            self.assertEqual(asked(n, words, *[fixed(d) for d in SCALES]),
                             [fixed_told(n, words, d) for d in SCALES], words)


class AskedOnly(unittest.TestCase):
    def test_asking_changes_nothing(self):
        calls = [half(9), width(9, 1, 2, 4), steepest(9), fixed(9)]
        replied = run(begin(3), told([0, 3, 4]), *calls, *calls, *calls)[2:]
        self.assertEqual(replied[:4] * 3, replied)


if __name__ == "__main__":
    unittest.main()
