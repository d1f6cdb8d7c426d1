"""What is refused: by which number, and that it changes nothing."""

import unittest

from sharprises.rises import answers
from tests.line import BIGGEST, MEAN, NEGATED, RISING
from tests.line import ask, ask_all, begin, bit, least, odd, run, set_word, told, turn

# Each call but begin, handed what would be right for some bits.
RIGHT_CALLS = [told([]), told([0, 1]), least(0, [1]), least(1, [1, 1, 1, 1, 1]), odd(0), bit(0), NEGATED, turn(0),
               set_word(0, 1), ask(0), MEAN, RISING]

# The same, handed what isn't right for any.
WRONG_CALLS = [told([BIGGEST]), told([0] * 33), told([BIGGEST] * 255), least(BIGGEST, []), least(0, [10] * 255),
               odd(BIGGEST), bit(5), bit(BIGGEST), turn(5), turn(BIGGEST), set_word(BIGGEST, BIGGEST), ask(BIGGEST)]

# The calls that come with later work: their numbers are read, too, so that the call behind is found.
LATER_CALLS = [[11], [12], [13, 1, 2], [14, 0, 1, 2], [15, 1, 2], [16], [17, 8], [18, 8, 1, 2, 3], [19, 1, 2, 3],
               [20, 8], [21, 8]]


class BeforeABegin(unittest.TestCase):
    def test_every_other_call_whatever_it_is_handed(self):
        for call in RIGHT_CALLS + WRONG_CALLS + LATER_CALLS:
            self.assertEqual(run(call), [[-11]], call)

    def test_the_call_behind_is_found(self):
        for call in RIGHT_CALLS + WRONG_CALLS + LATER_CALLS:
            self.assertEqual(run(call, begin(2), NEGATED), [[-11], [0], [4]], call)

    def test_nothing_of_it_is_kept(self):
        self.assertEqual(run(NEGATED, told([0]), begin(1), *ask_all(1)), [[-11], [-11], [0], [0], [0]])

    def test_a_refused_begin_is_none(self):
        for n in (0, 6, BIGGEST):
            for call in RIGHT_CALLS + WRONG_CALLS + LATER_CALLS:
                self.assertEqual(run(begin(n), call), [[-22], [-11]], call)

    def test_as_numbers(self):
        self.assertEqual(answers([8, 0]), [1, -11])
        self.assertEqual(answers([0, 6, 9]), [1, -22, 1, -11])


class Refused(unittest.TestCase):
    def check(self, n, call, number):
        """The call is refused by this number, and each word is answered behind it as ahead of it."""
        for made in (told([0]), odd(2 ** n - 1), told([]), least(0, [0] * n)):
            for x in range(2 ** n):
                ahead, refused, behind = run(begin(n), made, ask(x), call, ask(x))[2:]
                self.assertEqual(refused, [number], call)
                self.assertEqual(behind, ahead, call)
            refused, still = run(begin(n), made, call, ask(2 ** n))[2:]
            self.assertEqual((refused, still), ([number], [-22]), call)

    def test_begin(self):
        for n in (1, 3, 5):
            for wrong in (0, 6, 7, 32, BIGGEST):
                self.check(n, begin(wrong), -22)

    def test_told_too_many(self):
        for n in (1, 5):
            for many in (33, 34, 255):
                self.check(n, told([0] * many), -22)

    def test_told_no_word(self):
        for n in (1, 2, 5):
            for wrong in (2 ** n, BIGGEST):
                self.check(n, told([wrong]), -22)
                self.check(n, told([0, wrong]), -22)
                self.check(n, told([wrong, 0]), -22)
                self.check(n, told([0] * 31 + [wrong]), -22)

    def test_least_not_a_number_for_each_bit(self):
        for n in (1, 3, 5):
            for many in (0, n - 1, n + 1, 2 ** n, 255):
                self.check(n, least(1, [1] * many), -22)

    def test_least_a_number_above_9(self):
        for n in (1, 3, 5):
            for wrong in (10, BIGGEST):
                for i in range(n):
                    self.check(n, least(1, [1] * i + [wrong] + [1] * (n - 1 - i)), -22)

    def test_odd(self):
        for n in (1, 2, 5):
            for wrong in (2 ** n, 2 ** n + 1, BIGGEST):
                self.check(n, odd(wrong), -22)

    def test_bit(self):
        for n in (1, 2, 5):
            for wrong in (n, n + 1, 32, BIGGEST):
                self.check(n, bit(wrong), -2)

    def test_turn(self):
        for n in (1, 2, 5):
            for wrong in (n, n + 1, 32, BIGGEST):
                self.check(n, turn(wrong), -2)

    def test_set_word_no_word(self):
        for n in (1, 2, 5):
            for wrong in (2 ** n, BIGGEST):
                self.check(n, set_word(wrong, 0), -22)
                self.check(n, set_word(wrong, 1), -22)

    def test_set_word_neither_yes_nor_no(self):
        for n in (1, 2, 5):
            for wrong in (2, 3, BIGGEST):
                self.check(n, set_word(0, wrong), -22)
                self.check(n, set_word(2 ** n - 1, wrong), -22)

    def test_ask(self):
        for n in (1, 2, 5):
            for wrong in (2 ** n, 2 ** n + 1, BIGGEST):
                self.check(n, ask(wrong), -22)


class Several(unittest.TestCase):
    def test_before_a_begin_comes_first(self):
        self.assertEqual(run(bit(BIGGEST), turn(9), set_word(99, 2), told([99] * 33), least(1, [10])), [[-11]] * 5)

    def test_more_than_one_reason_of_one_number(self):
        self.assertEqual(run(begin(2), told([0]), told([4] * 33), least(0, [10]), set_word(4, 2), MEAN),
                         [[0], [1], [-22], [-22], [-22], [0, 1, 4]])

    def test_a_begin_again_takes_the_refusals_with_it(self):
        self.assertEqual(run(begin(1), bit(1), begin(2), bit(1), begin(6), bit(1), bit(2)),
                         [[0], [-2], [0], [2], [-22], [2], [-2]])


if __name__ == "__main__":
    unittest.main()
