"""Whole lists of calls: how they are read, and what they leave as it was."""

import unittest

from sharprises.rises import answers
from tests.line import MEAN, NEGATED, RISING
from tests.line import ask, ask_all, begin, bit, least, odd, run, set_word, told, turn

TOGETHER = [
    ([8, 0], [1, -11]),
    ([0, 6, 9], [1, -22, 1, -11]),
    ([0, 2, 9, 10], [1, 0, 3, 0, 0, 1, 1, 1]),
    ([0, 2, 1, 3, 1, 3, 3, 8, 3, 8, 0, 8, 4, 9, 10], [1, 0, 1, 2, 1, 1, 1, 0, 1, -22, 3, 0, 1, 2, 1, 1]),
    ([0, 3, 2, 2, 3, 1, 1, 1, 9, 10], [1, 0, 1, 4, 3, 0, 1, 2, 1, 1]),
    ([0, 2, 3, 3, 10, 5, 9, 10], [1, 0, 1, 2, 1, 0, 1, 2, 3, 0, 1, 2, 1, 0]),
    ([0, 1, 4, 0, 6, 0, 8, 0, 8, 1, 4, 1, 6, 1, 0, 0, 9],
     [1, 0, 1, 1, 1, 1, 1, 1, 1, 0, 1, -2, 1, -2, 1, -22, 3, 0, 1, 2]),
    ([0, 2, 7, 3, 1, 7, 4, 1, 7, 0, 2, 7, 3, 0, 9], [1, 0, 1, 1, 1, -22, 1, -22, 1, 0, 3, 0, 0, 1]),
]


class PutTogether(unittest.TestCase):
    def test_number_by_number(self):
        for calls, answered in TOGETHER:
            self.assertEqual(answers(calls), answered, calls)

    def test_a_list_of_whole_numbers_none_of_them_true_or_false(self):
        for calls, answered in TOGETHER:
            self.assertIs(list, answers(calls).__class__)
            self.assertEqual({int}, {number.__class__ for number in answers(calls)}, calls)

    def test_the_longest_rows_are_read_to_their_end(self):
        self.assertEqual(answers([0, 1] + [1, 255] + [8] * 255 + [2, 5, 255] + [9] * 255 + [9]),
                         [1, 0, 1, -22, 1, -22, 3, 0, 0, 1])


class FortyCalls(unittest.TestCase):
    def test_all_words_of_five_bits(self):
        calls = [begin(5), odd(21), NEGATED, turn(2), set_word(31, 1), set_word(0, 1), MEAN, RISING]
        replied = run(*calls, *ask_all(5))
        self.assertEqual(len(replied), 40)
        self.assertEqual(replied[:8], [[0], [16], [16], [16], [16], [17], [0, 17, 32], [0]])
        words = [x for x in range(32) if x == 0 or bin(x & 21).count("1") % 2 == 1]
        self.assertEqual(replied[8:], [[1 if x in words else 0] for x in range(32)])

    def test_forty_times_the_longest_row(self):
        self.assertEqual(answers([2, 0, 255] + [0] * 255 + ([1, 255] + [0] * 255) * 39), [1, -11] * 40)
        self.assertEqual(answers([0, 5] + ([2, 0, 255] + [0] * 255) * 39), [1, 0] + [1, -22] * 39)

    def test_forty_negations(self):
        self.assertEqual(run(begin(3), told([1, 5]), *[NEGATED] * 38)[1:], [[2], [6]] * 19 + [[2]])


class NothingKept(unittest.TestCase):
    def test_the_list_handed_in_is_not_changed(self):
        for calls, answered in TOGETHER:
            copied = list(calls)
            answers(calls)
            self.assertEqual(calls, copied)

    def test_the_same_list_again_is_answered_the_same(self):
        for calls, answered in TOGETHER + TOGETHER[::-1]:
            self.assertEqual(answers(calls), answered, calls)

    def test_an_object_is_new_at_a_list_s_beginning(self):
        self.assertEqual(run(begin(2), NEGATED), [[0], [4]])
        self.assertEqual(run(ask(0), MEAN), [[-11], [-11]])
        self.assertEqual(run(begin(2), MEAN), [[0], [0, 0, 1]])

    def test_what_is_given_back_may_be_changed(self):
        calls = [0, 2, 5, 9]
        answers(calls).clear()
        self.assertEqual(answers(calls), [1, 0, 1, 4, 3, 0, 1, 1])

    def test_calls_of_all_kinds_behind_one_another(self):
        replied = run(begin(3), least(3, [1, 2, 3]), RISING, bit(1), turn(1), RISING, odd(6), set_word(7, 1), ask(7),
                      begin(0), begin(1), told([1]), MEAN)
        self.assertEqual(replied, [[0], [5], [1], [4], [4], [0], [4], [5], [1], [-22], [0], [1], [0, 1, 2]])


if __name__ == "__main__":
    unittest.main()
