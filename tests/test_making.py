"""The calls that make another answer: begin, told, least, odd, bit, negated, turn, set_word."""

import unittest

from tests.line import BIGGEST, MEAN, NEGATED, RISING
from tests.line import ask, ask_all, begin, bit, least, odd, run, set_word, told, turn, yes_words


def set_bits(word):
    """Which bits a word has, read off its binary digits."""
    return [i for i, digit in enumerate(reversed(bin(word)[2:])) if digit == "1"]


class Begin(unittest.TestCase):
    def test_each_number_of_bits_begins_with_no_to_all(self):
        for n in range(1, 6):
            self.assertEqual(run(begin(n), *ask_all(n)), [[0]] + [[0]] * 2 ** n)

    def test_each_number_of_bits_has_just_its_words(self):
        for n in range(1, 6):
            self.assertEqual(run(begin(n), ask(2 ** n - 1), ask(2 ** n), NEGATED), [[0], [0], [-22], [2 ** n]])

    def test_a_begin_again_is_as_new(self):
        self.assertEqual(run(begin(2), told([0, 3]), begin(2), *ask_all(2)), [[0], [2], [0], [0], [0], [0], [0]])

    def test_a_begin_again_may_have_more_bits_or_fewer(self):
        self.assertEqual(run(begin(1), NEGATED, begin(5), NEGATED, ask(31)), [[0], [2], [0], [32], [1]])
        self.assertEqual(run(begin(5), NEGATED, begin(1), bit(1), NEGATED, ask(2)),
                         [[0], [32], [0], [-2], [2], [-22]])


class Told(unittest.TestCase):
    def test_yes_to_those_alone(self):
        self.assertEqual(run(begin(3), told([6, 1, 4]))[-1], [3])
        self.assertEqual(yes_words(3, told([6, 1, 4])), [1, 4, 6])

    def test_what_was_told_ahead_is_gone(self):
        self.assertEqual(run(begin(2), told([0, 1, 2]), told([3]))[-1], [1])
        self.assertEqual(yes_words(2, told([0, 1, 2]), told([3])), [3])

    def test_no_words(self):
        self.assertEqual(run(begin(2), NEGATED, told([]), *ask_all(2)), [[0], [4], [0], [0], [0], [0], [0]])

    def test_thirty_two_words(self):
        self.assertEqual(run(begin(5), told(list(range(32))))[-1], [32])
        self.assertEqual(yes_words(5, told(list(range(31, -1, -1)))), list(range(32)))

    def test_a_word_twice_counts_once(self):
        self.assertEqual(run(begin(2), told([1, 3, 3]), *ask_all(2)), [[0], [2], [0], [1], [0], [1]])

    def test_thirty_two_numbers_for_fewer_words(self):
        self.assertEqual(run(begin(1), told([1] * 32), *ask_all(1)), [[0], [1], [0], [1]])


class Least(unittest.TestCase):
    def test_two_of_three(self):
        self.assertEqual(run(begin(3), least(2, [1, 1, 1]))[-1], [4])
        self.assertEqual(yes_words(3, least(2, [1, 1, 1])), [3, 5, 6, 7])

    def test_numbers_stand_from_bit_0_on(self):
        self.assertEqual(yes_words(3, least(4, [4, 1, 2])), [1, 3, 5, 7])
        self.assertEqual(yes_words(3, least(3, [4, 1, 2])), [1, 3, 5, 6, 7])

    def test_each_needed_number(self):
        numbers = [3, 0, 9, 1]
        for q in range(16):
            words = [x for x in range(16) if sum(numbers[i] for i in set_bits(x)) >= q]
            self.assertEqual(run(begin(4), least(q, numbers))[-1], [len(words)])
            self.assertEqual(yes_words(4, least(q, numbers)), words)

    def test_needed_0_is_yes_to_all(self):
        self.assertEqual(run(begin(3), least(0, [0, 5, 9]), *ask_all(3)), [[0], [8]] + [[1]] * 8)

    def test_numbers_0_and_9(self):
        self.assertEqual(yes_words(2, least(9, [0, 9])), [2, 3])
        self.assertEqual(yes_words(2, least(1, [0, 0])), [])
        self.assertEqual(yes_words(5, least(45, [9] * 5)), [31])
        self.assertEqual(run(begin(5), least(46, [9] * 5))[-1], [0])

    def test_more_needed_than_can_be(self):
        self.assertEqual(run(begin(2), NEGATED, least(BIGGEST, [9, 9]), *ask_all(2)),
                         [[0], [4], [0], [0], [0], [0], [0]])

    def test_one_bit_and_five(self):
        self.assertEqual(yes_words(1, least(1, [1])), [1])
        self.assertEqual(run(begin(5), least(3, [1] * 5))[-1], [16])


class Odd(unittest.TestCase):
    def test_each_set(self):
        for n in range(1, 5):
            for s in range(2 ** n):
                words = [x for x in range(2 ** n) if len(set(set_bits(x)) & set(set_bits(s))) % 2 == 1]
                self.assertEqual(run(begin(n), odd(s))[-1], [len(words)])
                self.assertEqual(yes_words(n, odd(s)), words)

    def test_no_word_meets_the_set_0(self):
        self.assertEqual(run(begin(2), NEGATED, odd(0), *ask_all(2)), [[0], [4], [0], [0], [0], [0], [0]])

    def test_all_five_bits(self):
        self.assertEqual(yes_words(5, odd(31)), [x for x in range(32) if bin(x).count("1") in (1, 3, 5)])


class Bit(unittest.TestCase):
    def test_each_bit(self):
        for n in range(1, 6):
            for i in range(n):
                self.assertEqual(run(begin(n), bit(i))[-1], [2 ** (n - 1)])
                self.assertEqual(yes_words(n, bit(i)), [x for x in range(2 ** n) if i in set_bits(x)])


class Negated(unittest.TestCase):
    def test_yes_to_the_others_alone(self):
        self.assertEqual(run(begin(3), told([0, 2, 7]), NEGATED)[-1], [5])
        self.assertEqual(yes_words(3, told([0, 2, 7]), NEGATED), [1, 3, 4, 5, 6])

    def test_twice_is_as_it_was(self):
        self.assertEqual(yes_words(3, told([0, 2, 7]), NEGATED, NEGATED), [0, 2, 7])

    def test_of_no_to_all_and_of_yes_to_all(self):
        self.assertEqual(run(begin(5), NEGATED, NEGATED), [[0], [32], [0]])


class Turn(unittest.TestCase):
    def test_each_bit(self):
        self.assertEqual(run(begin(3), told([0, 1, 6]), turn(0))[-1], [3])
        self.assertEqual(yes_words(3, told([0, 1, 6]), turn(0)), [0, 1, 7])
        self.assertEqual(yes_words(3, told([0, 1, 6]), turn(1)), [2, 3, 4])
        self.assertEqual(yes_words(3, told([0, 1, 6]), turn(2)), [2, 4, 5])

    def test_each_bit_of_one_word_of_five_bits(self):
        for i, word in enumerate([11, 8, 14, 2, 26]):
            self.assertEqual(yes_words(5, told([10]), turn(i)), [word])

    def test_twice_is_as_it_was(self):
        for i in range(4):
            self.assertEqual(yes_words(4, told([0, 3, 5, 14]), turn(i), turn(i)), [0, 3, 5, 14])


class SetWord(unittest.TestCase):
    def test_to_1(self):
        self.assertEqual(run(begin(2), told([0]), set_word(2, 1))[-1], [2])
        self.assertEqual(yes_words(2, told([0]), set_word(2, 1)), [0, 2])

    def test_to_0(self):
        self.assertEqual(run(begin(2), told([0, 2]), set_word(2, 0))[-1], [1])
        self.assertEqual(yes_words(2, told([0, 2]), set_word(2, 0)), [0])

    def test_twice_the_same(self):
        self.assertEqual(run(begin(2), set_word(3, 1), set_word(3, 1), ask(3), set_word(3, 0), set_word(3, 0), ask(3)),
                         [[0], [1], [1], [1], [0], [0], [0]])

    def test_each_word_of_five_bits(self):
        for x in range(32):
            self.assertEqual(yes_words(5, set_word(x, 1)), [x])

    def test_what_was_made_ahead_stays(self):
        self.assertEqual(run(begin(3), bit(2), set_word(0, 1), set_word(7, 0), MEAN, RISING),
                         [[0], [4], [5], [4], [0, 1, 2], [0]])
        self.assertEqual(yes_words(3, bit(2), set_word(0, 1), set_word(7, 0)), [0, 4, 5, 6])


if __name__ == "__main__":
    unittest.main()
