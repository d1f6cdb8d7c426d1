"""The calls that ask about the answer there is, no chance in it: ask, mean, rising, sides, state, sizes."""

import unittest

from tests.line import MEAN, NEGATED, RISING, SIDES, SIZES, STATE
from tests.line import ask, ask_all, asked, begin, bit, least, never_a_no_above, odd, other_answers, rising_answers
from tests.line import run, set_word, told, turn, words_of_mask


class Ask(unittest.TestCase):
    def test_each_word(self):
        self.assertEqual(run(begin(2), told([1, 2]), *ask_all(2)), [[0], [2], [0], [1], [1], [0]])

    def test_the_first_word_and_the_last(self):
        self.assertEqual(run(begin(1), told([1]), ask(0), ask(1)), [[0], [1], [0], [1]])
        self.assertEqual(run(begin(5), told([0]), ask(0), ask(31)), [[0], [1], [1], [0]])

    def test_asking_changes_nothing(self):
        self.assertEqual(run(begin(2), told([1, 2]), MEAN, RISING, ask(1), *ask_all(2))[-4:], [[0], [1], [1], [0]])


class Mean(unittest.TestCase):
    def test_no_to_all(self):
        for n in range(1, 6):
            self.assertEqual(run(begin(n), MEAN)[-1], [0, 0, 1])

    def test_yes_to_all(self):
        for n in range(1, 6):
            self.assertEqual(run(begin(n), NEGATED, MEAN)[-1], [0, 1, 1])

    def test_two_of_eight(self):
        self.assertEqual(run(begin(3), told([3, 4]), MEAN)[-1], [0, 1, 4])

    def test_each_part_of_eight(self):
        lowest = [[0, 1], [1, 8], [1, 4], [3, 8], [1, 2], [5, 8], [3, 4], [7, 8], [1, 1]]
        for many, fraction in enumerate(lowest):
            self.assertEqual(run(begin(3), told(list(range(many))), MEAN)[-1], [0] + fraction)

    def test_parts_of_thirty_two(self):
        for many, fraction in [(1, [1, 32]), (12, [3, 8]), (16, [1, 2]), (30, [15, 16]), (31, [31, 32])]:
            self.assertEqual(run(begin(5), told(list(range(many))), MEAN)[-1], [0] + fraction)


class Rising(unittest.TestCase):
    def test_no_to_all_and_yes_to_all_rise(self):
        for n in range(1, 6):
            self.assertEqual(run(begin(n), RISING, NEGATED, RISING), [[0], [1], [2 ** n], [1]])

    def test_one_bit_rises_and_its_other_answer_falls(self):
        for n in range(1, 6):
            for i in range(n):
                self.assertEqual(run(begin(n), bit(i), RISING, NEGATED, RISING)[2::2], [[1], [0]])

    def test_an_odd_number_of_bits_falls_again(self):
        for n in range(2, 6):
            self.assertEqual(run(begin(n), odd(2 ** n - 1), RISING)[-1], [0])
            self.assertEqual(run(begin(n), odd(2 ** n - 1), NEGATED, RISING)[-1], [0])

    def test_an_odd_number_of_one_bit_rises(self):
        self.assertEqual(run(begin(3), odd(4), RISING, odd(0), RISING)[1:], [[4], [1], [0], [1]])

    def test_the_most_of_five_and_all_bits_needed(self):
        self.assertEqual(run(begin(5), least(3, [1] * 5), RISING, least(5, [1] * 5), RISING)[1:],
                         [[16], [1], [1], [1]])

    def test_a_fall_at_the_last_bit_alone(self):
        self.assertEqual(run(begin(5), told([15]), set_word(31, 1), RISING, set_word(31, 0), RISING)[3::2],
                         [[1], [0]])

    def test_a_fall_at_the_first_bit_alone(self):
        self.assertEqual(run(begin(5), told([30]), RISING, set_word(31, 1), RISING)[2::2], [[0], [1]])

    def test_each_answer_of_up_to_three_bits(self):
        for n, how_many in [(1, 3), (2, 6), (3, 20)]:
            found = 0
            for mask in range(2 ** 2 ** n):
                words = words_of_mask(mask, n)
                replied = run(begin(n), told(words), RISING)[-1]
                self.assertEqual(replied, [1 if never_a_no_above(words, n) else 0], words)
                found += replied[0]
            self.assertEqual(found, how_many)


class Sides(unittest.TestCase):
    def test_no_to_all_and_yes_to_all_have_none(self):
        for n in range(1, 6):
            self.assertEqual(run(begin(n), SIDES, NEGATED, SIDES)[1::2], [[0], [0]])

    def test_one_bit_has_half_as_many_as_words(self):
        for n in range(1, 6):
            for i in range(n):
                self.assertEqual(run(begin(n), bit(i), SIDES, NEGATED, SIDES)[2::2], [[2 ** (n - 1)]] * 2)

    def test_an_odd_number_of_bits_has_all_there_are(self):
        for n, all_there_are in [(1, 1), (2, 4), (3, 12), (4, 32), (5, 80)]:
            self.assertEqual(run(begin(n), odd(2 ** n - 1), SIDES)[-1], [all_there_are])

    def test_one_word_has_one_for_each_bit(self):
        for n in range(1, 6):
            for x in range(2 ** n):
                self.assertEqual(asked(n, [x], SIDES), [[n]])

    def test_the_most_of_three_and_of_five(self):
        self.assertEqual(run(begin(3), least(2, [1] * 3), SIDES)[-1], [6])
        self.assertEqual(run(begin(5), least(3, [1] * 5), SIDES)[-1], [30])

    def test_many_answers_counted_two_by_two(self):
        for n, words in rising_answers() + other_answers():
            twos = [(x, y) for x in range(2 ** n) for y in range(x) if bin(x ^ y).count("1") == 1]
            self.assertEqual(asked(n, words, SIDES), [[len([x for x, y in twos if (x in words) != (y in words)])]])


class State(unittest.TestCase):
    def test_no_to_all_and_yes_to_all(self):
        for n in range(1, 6):
            self.assertEqual(run(begin(n), STATE, NEGATED, STATE)[1::2], [[n], [n] + list(range(2 ** n))])

    def test_words_stand_rising_however_they_are_told(self):
        self.assertEqual(run(begin(3), told([6, 1, 4, 1]), STATE)[-1], [3, 1, 4, 6])
        self.assertEqual(run(begin(5), told(list(range(31, -1, -1))), STATE)[-1], [5] + list(range(32)))

    def test_it_is_told_behind_each_call_that_makes_another_answer(self):
        self.assertEqual(
            run(begin(2), STATE, told([3]), STATE, least(1, [0, 1]), STATE, odd(3), STATE, bit(0), STATE,
                NEGATED, STATE, turn(1), STATE, turn(0), STATE, set_word(2, 1), STATE, set_word(1, 0), STATE)[1::2],
            [[2], [2, 3], [2, 2, 3], [2, 1, 2], [2, 1, 3], [2, 0, 2], [2, 0, 2], [2, 1, 3], [2, 1, 2, 3], [2, 2, 3]])

    def test_as_ask_tells_it(self):
        for n, words in rising_answers() + other_answers():
            self.assertEqual(asked(n, words, STATE), [[n] + words])
            self.assertEqual(asked(n, words, *ask_all(n)), [[1 if x in words else 0] for x in range(2 ** n)])

    def test_a_begin_again_has_other_bits(self):
        self.assertEqual(run(begin(2), NEGATED, begin(4), STATE, begin(0), STATE)[3::2], [[4], [4]])


class Sizes(unittest.TestCase):
    def test_no_to_all(self):
        for n in range(1, 6):
            self.assertEqual(run(begin(n), SIZES)[-1], [n + 1] + [0] * (n + 1))

    def test_yes_to_all(self):
        rows = [[1, 1], [1, 2, 1], [1, 3, 3, 1], [1, 4, 6, 4, 1], [1, 5, 10, 10, 5, 1]]
        for n, row in enumerate(rows, start=1):
            self.assertEqual(run(begin(n), NEGATED, SIZES)[-1], [n + 1] + row)

    def test_they_stand_from_0_on(self):
        self.assertEqual(asked(3, [0], SIZES), [[4, 1, 0, 0, 0]])
        self.assertEqual(asked(3, [1, 4], SIZES), [[4, 0, 2, 0, 0]])
        self.assertEqual(asked(3, [6, 5, 2, 7], SIZES), [[4, 0, 1, 2, 1]])
        self.assertEqual(asked(5, [31, 15, 0], SIZES), [[6, 1, 0, 0, 0, 1, 1]])

    def test_each_word_counts_by_its_bits(self):
        for n in range(1, 6):
            for x in range(2 ** n):
                sizes = [0] * (n + 1)
                sizes[bin(x).count("1")] = 1
                self.assertEqual(asked(n, [x], SIZES), [[n + 1] + sizes])


if __name__ == "__main__":
    unittest.main()
