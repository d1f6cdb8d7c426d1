"""What is refused: by which number, and that it changes nothing."""

import unittest

from sharprises.rises import answers
from tests.line import BIGGEST, MEAN, NEGATED, RISING, SIDES, SIZES, STATE
from tests.line import ask, ask_all, begin, bit, fixed, half, least, odd, run, set_word, slope, steepest, swayat, told
from tests.line import tries, turn, width, yes

# Each call but begin, handed what would be right for some bits.
RIGHT_CALLS = [told([]), told([0, 1]), least(0, [1]), least(1, [1, 1, 1, 1, 1]), odd(0), bit(0), NEGATED, turn(0),
               set_word(0, 1), ask(0), MEAN, RISING, SIDES, STATE, yes(1, 2), swayat(0, 1, 2), slope(1, 2), SIZES,
               half(8), width(8, 1, 2, 3), tries(1, 2, 3), steepest(8), fixed(8)]

# The same, handed what isn't right for any.
WRONG_CALLS = [told([BIGGEST]), told([0] * 33), told([BIGGEST] * 255), least(BIGGEST, []), least(0, [10] * 255),
               odd(BIGGEST), bit(5), bit(BIGGEST), turn(5), turn(BIGGEST), set_word(BIGGEST, BIGGEST), ask(BIGGEST),
               yes(1, 0), yes(BIGGEST, BIGGEST), swayat(BIGGEST, BIGGEST, BIGGEST), slope(2, 1), half(0),
               half(BIGGEST), width(0, 2, 1, 0), width(BIGGEST, BIGGEST, BIGGEST, BIGGEST), tries(2, 1, 0),
               tries(BIGGEST, BIGGEST, BIGGEST), steepest(0), steepest(BIGGEST), fixed(0), fixed(BIGGEST)]

# a by b that is no chance: b isn't 1 to 100, or a is above b.
NO_CHANCES = [(0, 0), (1, 0), (BIGGEST, 0), (0, 101), (1, 101), (101, 101), (102, 101), (0, BIGGEST), (2, 1),
              (101, 100), (BIGGEST, 1), (BIGGEST, 100), (BIGGEST, BIGGEST)]

# d that chances aren't told by.
NO_SCALES = [0, 101, 102, 200, BIGGEST]

# Answers that what's refused is to leave as they are: yes to all, no to all, and some between.
MADE = [NEGATED, told([0]), told([]), odd(1), bit(0)]


class BeforeABegin(unittest.TestCase):
    def test_every_other_call_whatever_it_is_handed(self):
        for call in RIGHT_CALLS + WRONG_CALLS:
            self.assertEqual(run(call), [[-11]], call)

    def test_the_call_behind_is_found(self):
        for call in RIGHT_CALLS + WRONG_CALLS:
            self.assertEqual(run(call, begin(2), NEGATED), [[-11], [0], [4]], call)

    def test_nothing_of_it_is_kept(self):
        self.assertEqual(run(NEGATED, told([0]), begin(1), *ask_all(1)), [[-11], [-11], [0], [0], [0]])

    def test_a_refused_begin_is_none(self):
        for n in (0, 6, BIGGEST):
            for call in RIGHT_CALLS + WRONG_CALLS:
                self.assertEqual(run(begin(n), call), [[-22], [-11]], call)

    def test_as_numbers(self):
        self.assertEqual(answers([8, 0]), [1, -11])
        self.assertEqual(answers([0, 6, 9]), [1, -22, 1, -11])


class Refused(unittest.TestCase):
    def check(self, n, call, number):
        """The call is refused by this number, and bits and words are told behind it as ahead of it."""
        for made in MADE:
            ahead, refused, behind = run(begin(n), made, STATE, call, STATE)[2:]
            self.assertEqual(refused, [number], call)
            self.assertEqual(behind, ahead, call)
            again = run(begin(n), made, call, *ask_all(n)[:37])[3:]
            self.assertEqual(again, [[1 if x in ahead[1:] else 0] for x in range(2 ** n)], call)

    def test_begin(self):
        for n in (1, 3, 5):
            for wrong in (0, 6, 7, 32, BIGGEST):
                self.check(n, begin(wrong), -22)

    def test_told_too_many(self):
        for n in (1, 5):
            for many in (33, 34, 255):
                self.check(n, told([0] * many), -22)

    def test_told_no_word(self):
        for n in (1, 2, 5):
            for wrong in (2 ** n, BIGGEST):
                self.check(n, told([wrong]), -22)
                self.check(n, told([0, wrong]), -22)
                self.check(n, told([wrong, 0]), -22)
                self.check(n, told([0] * 31 + [wrong]), -22)

    def test_least_not_a_number_for_each_bit(self):
        for n in (1, 3, 5):
            for many in (0, n - 1, n + 1, 2 ** n, 255):
                self.check(n, least(1, [1] * many), -22)

    def test_least_a_number_above_9(self):
        for n in (1, 3, 5):
            for wrong in (10, BIGGEST):
                for i in range(n):
                    self.check(n, least(1, [1] * i + [wrong] + [1] * (n - 1 - i)), -22)

    def test_odd(self):
        for n in (1, 2, 5):
            for wrong in (2 ** n, 2 ** n + 1, BIGGEST):
                self.check(n, odd(wrong), -22)

    def test_bit(self):
        for n in (1, 2, 5):
            for wrong in (n, n + 1, 32, BIGGEST):
                self.check(n, bit(wrong), -2)

    def test_turn(self):
        for n in (1, 2, 5):
            for wrong in (n, n + 1, 32, BIGGEST):
                self.check(n, turn(wrong), -2)

    def test_set_word_no_word(self):
        for n in (1, 2, 5):
            for wrong in (2 ** n, BIGGEST):
                self.check(n, set_word(wrong, 0), -22)
                self.check(n, set_word(wrong, 1), -22)

    def test_set_word_neither_yes_nor_no(self):
        for n in (1, 2, 5):
            for wrong in (2, 3, BIGGEST):
                self.check(n, set_word(0, wrong), -22)
                self.check(n, set_word(2 ** n - 1, wrong), -22)

    def test_ask(self):
        for n in (1, 2, 5):
            for wrong in (2 ** n, 2 ** n + 1, BIGGEST):
                self.check(n, ask(wrong), -22)

    def test_no_chance(self):
        for n in (1, 2, 5):
            for a, b in NO_CHANCES:
                self.check(n, yes(a, b), -22)
                self.check(n, swayat(n - 1, a, b), -22)
                self.check(n, slope(a, b), -22)
                self.check(n, tries(a, b, 1), -22)
                self.check(n, width(100, a, a, b), -22)

    def test_swayat_no_such_bit(self):
        for n in (1, 2, 5):
            for wrong in (n, n + 1, 32, BIGGEST):
                self.check(n, swayat(wrong, 1, 2), -2)

    def test_no_scale(self):
        for n in (1, 3, 5):
            for d in NO_SCALES:
                self.check(n, half(d), -22)
                self.check(n, width(d, 1, 2, 3), -22)
                self.check(n, width(d, 0, 0, 1), -22)
                self.check(n, steepest(d), -22)
                self.check(n, fixed(d), -22)

    def test_width_one_of_both_no_chance(self):
        for n in (1, 5):
            for d in (1, 100):
                for u, v, w in [(0, 3, 2), (2, 3, 2), (3, 3, 2), (3, 2, 2), (0, 101, 100), (0, BIGGEST, 100),
                                (BIGGEST, 0, 100), (0, 1, 0), (0, 0, 0), (0, 1, 101), (0, 0, 101), (0, 1, BIGGEST)]:
                    self.check(n, width(d, u, v, w), -22)

    def test_width_the_second_below_the_first(self):
        for n in (1, 5):
            for u, v, w in [(1, 0, 1), (2, 1, 3), (100, 99, 100), (50, 0, 100)]:
                self.check(n, width(10, u, v, w), -22)

    def test_tries_too_few_or_too_many(self):
        for n in (1, 2, 5):
            for k in (0, 7, 8, 100, BIGGEST):
                self.check(n, tries(1, 2, k), -22)
                self.check(n, tries(0, 1, k), -22)
                self.check(n, tries(1, 1, k), -22)

    def test_there_is_none(self):
        for n in range(1, 6):
            for d in (1, 2, 100):
                self.assertEqual(run(begin(n), half(d), STATE)[1:], [[-33], [n]])
                self.assertEqual(run(begin(n), width(d, 1, 2, 3), width(d, 0, 1, 3), STATE)[1:], [[-33], [-33], [n]])

    def test_there_is_none_of_an_answer_that_falls_again(self):
        self.assertEqual(run(begin(2), odd(3), half(3), width(3, 0, 1, 2), width(3, 1, 2, 2), STATE)[2:],
                         [[-33], [-33], [-33], [2, 1, 2]])


class JustRight(unittest.TestCase):
    """The last numbers that aren't refused."""

    def test_chances(self):
        for n in (1, 5):
            for a, b in [(0, 1), (1, 1), (0, 100), (100, 100)]:
                replied = run(begin(n), bit(0), yes(a, b), swayat(0, a, b), slope(a, b), tries(a, b, 1),
                              tries(a, b, 6))[2:]
                p = [1 if a > 0 else 0, 1]
                self.assertEqual(replied, [[0] + p, [0, 1, 1], [0, 1, 1], [0] + p + p, [0] + p + p])

    def test_scales(self):
        for n in (1, 5):
            for d in (1, 100):
                replied = run(begin(n), bit(n - 1), half(d), width(d, 0, 100, 100), width(d, 0, 0, 1), steepest(d),
                              fixed(d))[2:]
                self.assertEqual(replied, [[(d + 1) // 2], [d, 0, d], [0, 0, 0], [0, 1, 1],
                                           [d + 1] + list(range(d + 1))])


class Several(unittest.TestCase):
    def test_swayat_no_such_bit_comes_ahead_of_no_chance(self):
        for n in (1, 2, 5):
            for a, b in NO_CHANCES:
                self.assertEqual(run(begin(n), swayat(n, a, b), swayat(BIGGEST, a, b))[1:], [[-2], [-2]])

    def test_what_is_not_right_comes_ahead_of_none(self):
        for d in NO_SCALES:
            self.assertEqual(run(begin(2), half(d), width(d, 1, 2, 3))[1:], [[-22], [-22]])
        for u, v, w in [(2, 1, 2), (1, 3, 2), (1, 1, 0), (1, 1, 101)]:
            self.assertEqual(run(begin(2), width(10, u, v, w), width(10, 1, 2, 2))[1:], [[-22], [-33]])

    def test_before_a_begin_comes_first(self):
        self.assertEqual(run(bit(BIGGEST), turn(9), set_word(99, 2), told([99] * 33), least(1, [10])), [[-11]] * 5)

    def test_more_than_one_reason_of_one_number(self):
        self.assertEqual(run(begin(2), told([0]), told([4] * 33), least(0, [10]), set_word(4, 2), MEAN),
                         [[0], [1], [-22], [-22], [-22], [0, 1, 4]])

    def test_a_begin_again_takes_the_refusals_with_it(self):
        self.assertEqual(run(begin(1), bit(1), begin(2), bit(1), begin(6), bit(1), bit(2)),
                         [[0], [-2], [0], [2], [-22], [2], [-2]])


if __name__ == "__main__":
    unittest.main()
