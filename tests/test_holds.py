"""What holds over many answers and chances, told by what is answered alone."""

import unittest
from fractions import Fraction

from tests.line import MEAN, RISING
from tests.line import asked, other_answers, rising_answers, slope, steepest, swayat, tries, yes

CHANCES = [(0, 1), (1, 1), (1, 2), (1, 3), (2, 7), (9, 10), (1, 100), (63, 100), (99, 100)]


def fractions_of(replied):
    """The fractions behind the first number that's answered."""
    return [Fraction(replied[at], replied[at + 1]) for at in range(1, len(replied), 2)]


class Rising(unittest.TestCase):
    def test_these_are_the_rising_ones(self):
        for n, words in rising_answers():
            self.assertEqual(asked(n, words, RISING), [[1]])
        for n, words in other_answers():
            self.assertEqual(asked(n, words, RISING), [[0]])

    def test_it_rises_just_as_fast_as_all_its_bits_sway(self):
        for n, words in rising_answers():
            for a, b in CHANCES:
                replied = asked(n, words, slope(a, b), *[swayat(i, a, b) for i in range(n)])
                rise, *sways = [fractions_of(numbers)[0] for numbers in replied]
                self.assertEqual(rise, sum(sways), words)

    def test_it_never_falls(self):
        for n, words in rising_answers():
            for numbers in asked(n, words, *[slope(a, b) for a, b in CHANCES]):
                self.assertGreaterEqual(fractions_of(numbers)[0], 0)
            likely = [fractions_of(numbers)[0] for numbers in asked(n, words, *[yes(a, 30) for a in range(31)])]
            self.assertEqual(likely, sorted(likely))

    def test_each_bit_tried_is_no_less_likely_than_all_anew(self):
        for n, words in rising_answers():
            for a, b in CHANCES:
                for numbers in asked(n, words, *[tries(a, b, k) for k in range(1, 7)]):
                    each, anew = fractions_of(numbers)
                    self.assertGreaterEqual(each, anew, words)


class EveryAnswer(unittest.TestCase):
    def test_at_a_half_each_word_is_as_likely(self):
        for n, words in rising_answers() + other_answers():
            mean, half, whole = asked(n, words, MEAN, yes(1, 2), yes(50, 100))
            self.assertEqual([mean, mean], [half, whole])
            for x in range(2 ** n):
                self.assertEqual(asked(n, [x], yes(1, 2)), [[0, 1, 2 ** n]])

    def test_it_rises_no_faster_than_all_its_bits_sway(self):
        for n, words in other_answers():
            for a, b in CHANCES:
                replied = asked(n, words, slope(a, b), *[swayat(i, a, b) for i in range(n)])
                rise, *sways = [fractions_of(numbers)[0] for numbers in replied]
                self.assertLessEqual(abs(rise), sum(sways), words)

    def test_between_two_chances_it_rises_by_no_more_than_the_fastest_times_how_far(self):
        # The fastest is one of those by 100 parts: all these are fastest at 0, at a half or at 1.
        everywhere = [(1, [0]), (1, [1]), (2, [1, 2]), (2, [3]), (2, [0, 3]), (3, [3, 5, 6, 7]), (4, [15]),
                      (5, [x for x in range(32) if bin(x).count("1") > 2])]
        for n, words in everywhere:
            fastest = fractions_of(asked(n, words, steepest(100))[0])[0]
            likely = [fractions_of(numbers)[0] for numbers in asked(n, words, *[yes(a, 30) for a in range(31)])]
            for start in range(31):
                for end in range(start, 31):
                    self.assertLessEqual(likely[end] - likely[start], fastest * Fraction(end - start, 30), words)


if __name__ == "__main__":
    unittest.main()
