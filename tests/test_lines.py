"""Whole lists of calls: how they are read, and what they leave as it was."""

import unittest

from sharprises.rises import answers
from tests.line import MEAN, NEGATED, RISING, SIDES, SIZES, STATE
from tests.line import ask, ask_all, begin, bit, fixed, half, least, odd, run, set_word, slope, steepest, swayat, told
from tests.line import tries, turn, width, yes

TOGETHER = [
    ([8, 0], [1, -11]),
    ([0, 6, 9], [1, -22, 1, -11]),
    ([0, 2, 9, 10], [1, 0, 3, 0, 0, 1, 1, 1]),
    ([0, 2, 1, 3, 1, 3, 3, 8, 3, 8, 0, 8, 4, 9, 10], [1, 0, 1, 2, 1, 1, 1, 0, 1, -22, 3, 0, 1, 2, 1, 1]),
    ([0, 3, 2, 2, 3, 1, 1, 1, 9, 10], [1, 0, 1, 4, 3, 0, 1, 2, 1, 1]),
    ([0, 2, 3, 3, 10, 5, 9, 10], [1, 0, 1, 2, 1, 0, 1, 2, 3, 0, 1, 2, 1, 0]),
    ([0, 1, 4, 0, 6, 0, 8, 0, 8, 1, 4, 1, 6, 1, 0, 0, 9],
     [1, 0, 1, 1, 1, 1, 1, 1, 1, 0, 1, -2, 1, -2, 1, -22, 3, 0, 1, 2]),
    ([0, 2, 7, 3, 1, 7, 4, 1, 7, 0, 2, 7, 3, 0, 9], [1, 0, 1, 1, 1, -22, 1, -22, 1, 0, 3, 0, 0, 1]),
    ([11], [1, -11]),
    ([0, 6, 12, 16], [1, -22, 1, -11, 1, -11]),
    ([0, 1, 12, 16, 11, 13, 1, 2, 15, 1, 2, 17, 5, 20, 3, 21, 4],
     [1, 0, 1, 1, 3, 2, 0, 0, 1, 0, 3, 0, 0, 1, 3, 0, 0, 1, 1, -33, 3, 0, 0, 1, 2, 1, 0]),
    ([0, 1, 5, 12, 16, 11, 13, 0, 7, 15, 3, 4, 17, 5, 18, 5, 1, 3, 3, 20, 3, 21, 4],
     [1, 0, 1, 2, 3, 1, 0, 1, 3, 2, 1, 1, 1, 0, 3, 0, 1, 1, 3, 0, 0, 1, 1, 0, 3, 0, 0, 0, 3, 0, 0, 1, 2, 1, 4]),
    ([0, 1, 4, 0, 21, 3, 13, 2, 3, 15, 2, 3, 14, 0, 2, 3],
     [1, 0, 1, 1, 5, 4, 0, 1, 2, 3, 3, 0, 2, 3, 3, 0, 1, 1, 3, 0, 1, 1]),
    ([0, 2, 2, 2, 2, 1, 1, 13, 1, 3, 15, 1, 3, 16, 17, 10, 18, 10, 1, 4, 9, 19, 2, 3, 6],
     [1, 0, 1, 1, 3, 0, 1, 9, 3, 0, 2, 3, 4, 3, 0, 0, 1, 1, 8, 3, 3, 4, 7, 5, 0, 529984, 531441, 515816, 531441]),
    ([0, 2, 3, 3, 13, 1, 4, 15, 3, 4, 15, 1, 2, 20, 4, 17, 4, 21, 4],
     [1, 0, 1, 2, 3, 0, 3, 8, 3, 0, -1, 1, 3, 0, 0, 1, 3, 0, 2, 1, 1, 2, 3, 2, 0, 2]),
    ([0, 3, 2, 2, 3, 1, 1, 1, 11, 12, 16, 13, 1, 2, 14, 0, 1, 2, 15, 1, 2, 20, 10, 21, 10],
     [1, 0, 1, 4, 1, 6, 5, 3, 3, 5, 6, 7, 5, 4, 0, 0, 3, 1, 3, 0, 1, 2, 3, 0, 1, 2, 3, 0, 3, 2, 3, 5, 3, 2, 4, 3, 0,
      5, 10]),
    ([0, 3, 2, 2, 3, 1, 1, 1, 17, 7, 18, 8, 1, 3, 4, 18, 8, 1, 1, 4], [1, 0, 1, 4, 1, 4, 3, 3, 3, 6, 3, 0, 3, 3]),
    ([0, 3, 2, 2, 3, 1, 1, 1, 19, 1, 2, 2, 19, 1, 3, 1, 19, 0, 5, 6, 19, 5, 5, 6],
     [1, 0, 1, 4, 5, 0, 27, 32, 3, 4, 5, 0, 7, 27, 7, 27, 5, 0, 0, 1, 0, 1, 5, 0, 1, 1, 1, 1]),
    ([0, 5, 2, 3, 5, 1, 1, 1, 1, 1, 11, 16, 13, 0, 1, 13, 1, 1, 14, 4, 1, 2, 15, 1, 2, 20, 100, 21, 4],
     [1, 0, 1, 16, 1, 30, 7, 6, 0, 0, 0, 10, 5, 1, 3, 0, 0, 1, 3, 0, 1, 1, 3, 0, 3, 8, 3, 0, 15, 8, 3, 50, 15, 8, 4,
      3, 0, 2, 4]),
    ([0, 5, 2, 5, 5, 1, 1, 1, 1, 1, 13, 1, 2, 17, 100, 20, 7, 15, 1, 1, 19, 99, 100, 6],
     [1, 0, 1, 1, 3, 0, 1, 32, 1, 88, 3, 7, 5, 1, 3, 0, 5, 1, 5, 0,
      999999999995000000000009999999999990000000000004999999999999,
      1000000000000000000000000000000000000000000000000000000000000,
      999999986141840293713520978870670816548061557797263555652999,
      1000000000000000000000000000000000000000000000000000000000000]),
    ([0, 3, 3, 7, 16, 15, 1, 2, 20, 6, 17, 4, 21, 2],
     [1, 0, 1, 4, 5, 4, 0, 3, 0, 1, 3, 0, 0, 1, 3, 0, 3, 1, 1, 2, 4, 3, 0, 1, 2]),
    ([0, 2, 4, 1, 5, 13, 1, 4, 15, 1, 4, 20, 5, 17, 3, 18, 4, 1, 1, 2, 21, 6],
     [1, 0, 1, 2, 1, 2, 3, 0, 3, 4, 3, 0, -1, 1, 3, 0, -1, 1, 1, 0, 3, 0, 0, 0, 2, 1, 3]),
    ([0, 2, 13, 2, 1, 13, 0, 0, 13, 1, 101, 14, 2, 1, 0, 14, 1, 1, 0, 15, 3, 2, 17, 0, 17, 101, 20, 0, 21, 101],
     [1, 0, 1, -22, 1, -22, 1, -22, 1, -2, 1, -22, 1, -22, 1, -22, 1, -22, 1, -22, 1, -22]),
    ([0, 2, 18, 3, 2, 1, 3, 18, 3, 0, 0, 3, 18, 3, 1, 2, 3, 18, 0, 1, 2, 3, 18, 3, 1, 2, 0, 19, 1, 2, 0, 19, 1, 2, 7,
      19, 3, 2, 1],
     [1, 0, 1, -22, 3, 0, 0, 0, 1, -33, 1, -22, 1, -22, 1, -22, 1, -22, 1, -22]),
]


class PutTogether(unittest.TestCase):
    def test_number_by_number(self):
        for calls, answered in TOGETHER:
            self.assertEqual(answers(calls), answered, calls)

    def test_a_list_of_whole_numbers_none_of_them_true_or_false(self):
        for calls, answered in TOGETHER:
            self.assertIs(list, answers(calls).__class__)
            self.assertEqual({int}, {number.__class__ for number in answers(calls)}, calls)

    def test_the_longest_rows_are_read_to_their_end(self):
        self.assertEqual(answers([0, 1] + [1, 255] + [8] * 255 + [2, 5, 255] + [9] * 255 + [9]),
                         [1, 0, 1, -22, 1, -22, 3, 0, 0, 1])


class FortyCalls(unittest.TestCase):
    def test_all_words_of_five_bits(self):
        calls = [begin(5), odd(21), NEGATED, turn(2), set_word(31, 1), set_word(0, 1), MEAN, RISING]
        replied = run(*calls, *ask_all(5))
        self.assertEqual(len(replied), 40)
        self.assertEqual(replied[:8], [[0], [16], [16], [16], [16], [17], [0, 17, 32], [0]])
        words = [x for x in range(32) if x == 0 or bin(x & 21).count("1") % 2 == 1]
        self.assertEqual(replied[8:], [[1 if x in words else 0] for x in range(32)])

    def test_forty_times_the_longest_row(self):
        self.assertEqual(answers([2, 0, 255] + [0] * 255 + ([1, 255] + [0] * 255) * 39), [1, -11] * 40)
        self.assertEqual(answers([0, 5] + ([2, 0, 255] + [0] * 255) * 39), [1, 0] + [1, -22] * 39)

    def test_forty_negations(self):
        self.assertEqual(run(begin(3), told([1, 5]), *[NEGATED] * 38)[1:], [[2], [6]] * 19 + [[2]])

    def test_all_calls_behind_one_another(self):
        calls = [
            (STATE, [-11]), (begin(6), [-22]), (SIDES, [-11]), (begin(3), [0]), (least(2, [1, 1, 1]), [4]),
            (SIDES, [6]), (STATE, [3, 3, 5, 6, 7]), (yes(1, 3), [0, 7, 27]), (swayat(2, 1, 3), [0, 4, 9]),
            (slope(1, 3), [0, 4, 3]), (SIZES, [4, 0, 0, 3, 1]), (half(9), [5]), (width(8, 1, 3, 4), [3, 3, 6]),
            (tries(1, 3, 1), [0, 7, 27, 7, 27]), (steepest(3), [1, 4, 3]), (fixed(2), [3, 0, 1, 2]), (begin(0), [-22]),
            (RISING, [1]), (MEAN, [0, 1, 2]), (NEGATED, [4]), (slope(1, 3), [0, -4, 3]), (half(9), [0]),
            (turn(0), [4]), (STATE, [3, 0, 1, 3, 5]), (set_word(7, 1), [5]), (set_word(0, 0), [4]),
            (fixed(4), [5, 0, 1, 2, 3, 4]), (RISING, [1]), (swayat(3, 1, 2), [-2]), (odd(8), [-22]), (begin(2), [0]),
            (half(2), [-33]), (swayat(2, 1, 2), [-2]), (odd(3), [2]), (SIZES, [3, 0, 2, 0]), (steepest(4), [0, 2, 1]),
            (tries(1, 2, 2), [0, 3, 8, 3, 4]), (ask(3), [0]), (bit(1), [2]), (yes(1, 4), [0, 1, 4])]
        self.assertEqual(len(calls), 40)
        self.assertEqual(run(*[call for call, replied in calls]), [replied for call, replied in calls])

    def test_asked_in_any_order(self):
        calls = [SIDES, STATE, yes(1, 3), swayat(1, 2, 5), slope(1, 7), SIZES, half(6), width(9, 1, 2, 8),
                 tries(1, 4, 3), steepest(7), fixed(6), RISING, MEAN, ask(5), ask(8), half(0), swayat(3, 0, 0)]
        made = [begin(3), told([1, 2, 5, 7])]
        alone = [run(*made, call)[-1] for call in calls]
        for first in range(len(calls)):
            turned = calls[first:] + calls[:first]
            self.assertEqual(run(*made, *turned, *turned[::-1])[2:],
                             alone[first:] + alone[:first] + (alone[first:] + alone[:first])[::-1])

    def test_asked_between_those_that_make_another_answer(self):
        made = [begin(4), bit(2), NEGATED, turn(2), least(5, [1, 2, 3, 4]), set_word(0, 1), odd(9), told([1, 6, 15])]
        asked_for = [STATE, SIZES, yes(2, 7), half(5)]
        replied = run(*[call for maker in made for call in [maker, *asked_for]])
        for at in range(len(made)):
            self.assertEqual(replied[5 * at:5 * at + 5], run(*made[:at + 1], *asked_for)[at:])

    def test_the_longest_answers(self):
        self.assertEqual(answers([0, 5, 4, 4] + [21, 100] * 38), [1, 0, 1, 16] + [102, 101, *range(101)] * 38)
        self.assertEqual(answers([0, 5, 5] + [12] * 38), [1, 0, 1, 32] + [33, 5, *range(32)] * 38)


class NothingKept(unittest.TestCase):
    def test_the_list_handed_in_is_not_changed(self):
        for calls, answered in TOGETHER:
            copied = list(calls)
            answers(calls)
            self.assertEqual(calls, copied)

    def test_the_same_list_again_is_answered_the_same(self):
        for calls, answered in TOGETHER + TOGETHER[::-1]:
            self.assertEqual(answers(calls), answered, calls)

    def test_an_object_is_new_at_a_list_s_beginning(self):
        self.assertEqual(run(begin(2), NEGATED), [[0], [4]])
        self.assertEqual(run(ask(0), MEAN), [[-11], [-11]])
        self.assertEqual(run(begin(2), MEAN), [[0], [0, 0, 1]])
        self.assertEqual(run(STATE, begin(3), STATE, SIZES, fixed(2)), [[-11], [0], [3], [4, 0, 0, 0, 0], [1, 0]])

    def test_what_is_given_back_may_be_changed(self):
        calls = [0, 2, 5, 9]
        answers(calls).clear()
        self.assertEqual(answers(calls), [1, 0, 1, 4, 3, 0, 1, 1])

    def test_calls_of_all_kinds_behind_one_another(self):
        replied = run(begin(3), least(3, [1, 2, 3]), RISING, bit(1), turn(1), RISING, odd(6), set_word(7, 1), ask(7),
                      begin(0), begin(1), told([1]), MEAN)
        self.assertEqual(replied, [[0], [5], [1], [4], [4], [0], [4], [5], [1], [-22], [0], [1], [0, 1, 2]])


if __name__ == "__main__":
    unittest.main()
