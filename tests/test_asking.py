"""The calls that ask about the answer there is: ask, mean, rising."""

import unittest

from tests.line import MEAN, NEGATED, RISING
from tests.line import ask, ask_all, begin, bit, least, odd, run, set_word, told


def words_of_mask(mask, n):
    return [x for x in range(2 ** n) if mask & 2 ** x]


def never_a_no_above(words, n):
    """Rising, told otherwise: whatever has all the bits of a yes is a yes."""
    return all(y in words for x in words for y in range(2 ** n) if x & y == x)


class Ask(unittest.TestCase):
    def test_each_word(self):
        self.assertEqual(run(begin(2), told([1, 2]), *ask_all(2)), [[0], [2], [0], [1], [1], [0]])

    def test_the_first_word_and_the_last(self):
        self.assertEqual(run(begin(1), told([1]), ask(0), ask(1)), [[0], [1], [0], [1]])
        self.assertEqual(run(begin(5), told([0]), ask(0), ask(31)), [[0], [1], [1], [0]])

    def test_asking_changes_nothing(self):
        self.assertEqual(run(begin(2), told([1, 2]), MEAN, RISING, ask(1), *ask_all(2))[-4:], [[0], [1], [1], [0]])


class Mean(unittest.TestCase):
    def test_no_to_all(self):
        for n in range(1, 6):
            self.assertEqual(run(begin(n), MEAN)[-1], [0, 0, 1])

    def test_yes_to_all(self):
        for n in range(1, 6):
            self.assertEqual(run(begin(n), NEGATED, MEAN)[-1], [0, 1, 1])

    def test_two_of_eight(self):
        self.assertEqual(run(begin(3), told([3, 4]), MEAN)[-1], [0, 1, 4])

    def test_each_part_of_eight(self):
        lowest = [[0, 1], [1, 8], [1, 4], [3, 8], [1, 2], [5, 8], [3, 4], [7, 8], [1, 1]]
        for many, fraction in enumerate(lowest):
            self.assertEqual(run(begin(3), told(list(range(many))), MEAN)[-1], [0] + fraction)

    def test_parts_of_thirty_two(self):
        for many, fraction in [(1, [1, 32]), (12, [3, 8]), (16, [1, 2]), (30, [15, 16]), (31, [31, 32])]:
            self.assertEqual(run(begin(5), told(list(range(many))), MEAN)[-1], [0] + fraction)


class Rising(unittest.TestCase):
    def test_no_to_all_and_yes_to_all_rise(self):
        for n in range(1, 6):
            self.assertEqual(run(begin(n), RISING, NEGATED, RISING), [[0], [1], [2 ** n], [1]])

    def test_one_bit_rises_and_its_other_answer_falls(self):
        for n in range(1, 6):
            for i in range(n):
                self.assertEqual(run(begin(n), bit(i), RISING, NEGATED, RISING)[2::2], [[1], [0]])

    def test_an_odd_number_of_bits_falls_again(self):
        for n in range(2, 6):
            self.assertEqual(run(begin(n), odd(2 ** n - 1), RISING)[-1], [0])
            self.assertEqual(run(begin(n), odd(2 ** n - 1), NEGATED, RISING)[-1], [0])

    def test_an_odd_number_of_one_bit_rises(self):
        self.assertEqual(run(begin(3), odd(4), RISING, odd(0), RISING)[1:], [[4], [1], [0], [1]])

    def test_the_most_of_five_and_all_bits_needed(self):
        self.assertEqual(run(begin(5), least(3, [1] * 5), RISING, least(5, [1] * 5), RISING)[1:],
                         [[16], [1], [1], [1]])

    def test_a_fall_at_the_last_bit_alone(self):
        self.assertEqual(run(begin(5), told([15]), set_word(31, 1), RISING, set_word(31, 0), RISING)[3::2],
                         [[1], [0]])

    def test_a_fall_at_the_first_bit_alone(self):
        self.assertEqual(run(begin(5), told([30]), RISING, set_word(31, 1), RISING)[2::2], [[0], [1]])

    def test_each_answer_of_up_to_three_bits(self):
        for n, how_many in [(1, 3), (2, 6), (3, 20)]:
            found = 0
            for mask in range(2 ** 2 ** n):
                words = words_of_mask(mask, n)
                replied = run(begin(n), told(words), RISING)[-1]
                self.assertEqual(replied, [1 if never_a_no_above(words, n) else 0], words)
                found += replied[0]
            self.assertEqual(found, how_many)


if __name__ == "__main__":
    unittest.main()
