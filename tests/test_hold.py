"""hold, part and strewn."""

import unittest
from fractions import Fraction

from tests.asking import (
    LARGEST, Refusing, all_questions, as_fraction, ask, ask_last, begin, hold, part, strewn,
)


class Hold(unittest.TestCase):
    def test_tells_what_was_held_before(self):
        answered = ask(begin(1, 1), hold(0, 0, 2, 4), hold(0, 0, 3, 4), hold(0, 0, 0, 7), hold(0, 0, 100, 100),
                       hold(0, 0, 60, 90), hold(0, 0, 1, 100))
        self.assertEqual(answered[1:], [[0, 0, 1], [0, 1, 2], [0, 3, 4], [0, 0, 1], [0, 1, 1], [0, 2, 3]])

    def test_each_holder_of_each_company_has_its_own_part(self):
        holds = [hold(h, j, 1 + h + 5 * j, 100) for h in range(5) for j in range(3)]
        asked = [part(h, j) for h in range(5) for j in range(3)]
        answered = ask(begin(2, 3), *holds, *asked)
        expected = [Fraction(1 + h + 5 * j, 100) for h in range(5) for j in range(3)]
        self.assertEqual([as_fraction(one) for one in answered[16:]], expected)

    def test_every_part_in_its_lowest_form(self):
        for b in range(1, 101):
            for a in range(0, b + 1, 1 + b // 9):
                share = Fraction(a, b)
                left = 1 - share
                answered = ask(begin(1, 1), hold(0, 0, a, b), part(0, 0), strewn(0), hold(0, 0, 0, 1))
                told = [0, share.numerator, share.denominator]
                self.assertEqual(answered[1:], [[0, 0, 1], told, [0, left.numerator, left.denominator], told])

    def test_instead_of_the_one_before_where_all_is_held(self):
        start = [begin(2, 2), hold(0, 0, 1, 2), hold(1, 0, 1, 3), hold(3, 0, 1, 6)]
        self.assertEqual(ask_last(*start, strewn(0)), [0, 0, 1])
        self.assertEqual(ask(*start, hold(0, 0, 50, 100), part(0, 0))[-2:], [[0, 1, 2], [0, 1, 2]])
        self.assertEqual(ask(*start, hold(0, 0, 1, 3), strewn(0), hold(3, 0, 1, 3), strewn(0))[-4:],
                         [[0, 1, 2], [0, 1, 6], [0, 1, 6], [0, 0, 1]])
        self.assertEqual(ask(*start, hold(0, 0, 51, 100), part(0, 0), strewn(0))[-3:], [[-33], [0, 1, 2], [0, 0, 1]])

    def test_all_of_it(self):
        self.assertEqual(ask(begin(1, 2), hold(0, 0, 1, 1), hold(0, 0, 100, 100), part(0, 0), strewn(0))[1:],
                         [[0, 0, 1], [0, 1, 1], [0, 1, 1], [0, 0, 1]])
        self.assertEqual(ask(begin(1, 2), hold(0, 0, 1, 1), hold(1, 0, 1, 100), hold(1, 0, 0, 100))[2:],
                         [[-33], [0, 0, 1]])

    def test_a_part_of_0(self):
        self.assertEqual(ask(begin(1, 1), hold(0, 0, 0, 1), part(0, 0), hold(0, 0, 0, 100), part(0, 0), strewn(0))[1:],
                         [[0, 0, 1]] * 4 + [[0, 1, 1]])
        self.assertEqual(ask(begin(1, 1), hold(0, 0, 1, 1), hold(0, 0, 0, 99), part(0, 0), strewn(0))[2:],
                         [[0, 1, 1], [0, 0, 1], [0, 1, 1]])

    def test_a_company_may_hold_parts_of_itself(self):
        self.assertEqual(ask(begin(1, 1), hold(1, 0, 2, 6), part(1, 0), part(0, 0), strewn(0))[1:],
                         [[0, 0, 1], [0, 1, 3], [0, 0, 1], [0, 2, 3]])

    def test_parts_of_one_company_leave_the_others(self):
        self.assertEqual(ask(begin(1, 2), hold(0, 0, 1, 1), hold(0, 1, 1, 1), strewn(0), strewn(1))[2:],
                         [[0, 0, 1], [0, 0, 1], [0, 0, 1]])

    def test_many_lower_numbers_together(self):
        start = [begin(4, 5)] + [hold(h, 0, 1, b) for h, b in enumerate([100, 99, 98, 97, 95, 93, 91, 89, 83])]
        left = 1 - sum(Fraction(1, b) for b in [100, 99, 98, 97, 95, 93, 91, 89, 83])
        self.assertEqual(as_fraction(ask_last(*start, strewn(0))), left)


class HoldRefused(Refusing):
    start = [begin(2, 3), hold(0, 0, 1, 3), hold(4, 0, 1, 2), hold(2, 1, 1, 1)]

    def test_no_such_holder_or_company(self):
        self.refuses(-2, self.start, hold(5, 0, 1, 9), hold(0, 3, 1, 9), hold(5, 3, 1, 9), hold(LARGEST, 0, 1, 9),
                     hold(0, LARGEST, 1, 9))

    def test_no_such_ahead_of_all_else(self):
        self.refuses(-2, self.start, hold(5, 0, 1, 0), hold(5, 0, 2, 1), hold(0, 3, 1, 101), hold(5, 0, 1, 1),
                     hold(LARGEST, LARGEST, LARGEST, LARGEST))

    def test_what_is_given_is_not_right(self):
        self.refuses(-22, self.start, hold(0, 2, 0, 0), hold(0, 2, 1, 0), hold(0, 2, 1, 101), hold(0, 2, 0, 101),
                     hold(0, 2, 2, 1), hold(0, 2, 101, 100), hold(0, 2, LARGEST, 100), hold(0, 2, 0, LARGEST),
                     hold(0, 2, LARGEST, LARGEST), hold(0, 2, LARGEST, 0))

    def test_not_right_ahead_of_more_than_all(self):
        self.refuses(-22, self.start, hold(1, 1, 3, 2), hold(1, 1, 101, 101), hold(1, 0, 100, 99), hold(2, 1, 2, 1))

    def test_more_than_all(self):
        self.refuses(-33, self.start, hold(1, 1, 1, 100), hold(1, 1, 1, 1), hold(1, 0, 17, 100), hold(0, 0, 51, 100),
                     hold(4, 0, 67, 100), hold(3, 1, 100, 100))

    def test_just_all_is_not_more(self):
        start = [begin(2, 3), hold(0, 0, 1, 3), hold(4, 0, 1, 2)]
        self.assertEqual(ask_last(*start, hold(1, 0, 1, 6)), [0, 0, 1])
        self.assertEqual(ask_last(*start, hold(0, 0, 1, 2)), [0, 1, 3])
        self.assertEqual(ask_last(*start, hold(4, 0, 2, 3)), [0, 1, 2])


class PartAndStrewn(unittest.TestCase):
    def test_part_refused(self):
        start = begin(2, 3)
        self.assertEqual(ask_last(start, part(4, 2)), [0, 0, 1])
        for wrong in [part(5, 0), part(0, 3), part(5, 3), part(LARGEST, 0), part(0, LARGEST)]:
            self.assertEqual(ask_last(start, wrong), [-2], wrong)

    def test_strewn_refused(self):
        start = begin(2, 3)
        self.assertEqual(ask_last(start, strewn(2)), [0, 1, 1])
        for wrong in [strewn(3), strewn(4), strewn(LARGEST)]:
            self.assertEqual(ask_last(start, wrong), [-2], wrong)

    def test_strewn_is_what_is_left(self):
        answered = ask(begin(2, 2), strewn(0), hold(0, 0, 1, 4), strewn(0), hold(3, 0, 1, 3), strewn(0),
                       hold(2, 0, 5, 12), strewn(0), hold(0, 0, 0, 1), strewn(0), strewn(1))
        self.assertEqual(answered[1::2][:5], [[0, 1, 1], [0, 3, 4], [0, 5, 12], [0, 0, 1], [0, 1, 4]])
        self.assertEqual(answered[-1], [0, 1, 1])

    def test_asking_changes_nothing(self):
        start = [begin(2, 3), hold(0, 0, 1, 3), hold(3, 0, 1, 2), hold(2, 1, 1, 1)]
        questions = all_questions(2, 3)
        for first in range(0, len(questions), 18):
            some = questions[first:first + 18]
            answered = ask(*start, *some, *some)[4:]
            self.assertEqual(answered[:len(some)], answered[len(some):])


if __name__ == "__main__":
    unittest.main()
