"""books, worth and bookworth."""

import unittest
from fractions import Fraction

from tests.asking import (
    LARGEST, Refusing, as_fraction, as_fractions, ask, ask_last, begin, books, bookworth, hold, part, real, state,
    worth,
)

# Two people, three companies; none is closed, but there are rings.
OPEN = [begin(2, 3), hold(0, 0, 1, 2), hold(3, 0, 1, 3), hold(2, 1, 1, 1), hold(4, 2, 1, 4), hold(1, 2, 1, 5)]
# Company 1 is closed, and holds a part of company 0.
SHUT = [begin(2, 3), hold(3, 1, 1, 1), hold(3, 0, 1, 4), hold(0, 0, 1, 2), hold(1, 2, 3, 4)]

NOT_RIGHT_FOR_3 = [
    [], [0], [1000], [1, 2], [1, 2, 3, 4], [0, 0, 0, 0], [0] * 255, [1000] * 255, [LARGEST] * 255, [1001, 0, 0],
    [0, 1001, 0], [0, 0, 1001], [LARGEST, 0, 0], [0, 0, LARGEST], [1001] * 3, [LARGEST] * 3, [1, 2, 3, LARGEST],
    [1, 1001], [0] * 254,
]


class Worth(unittest.TestCase):
    def values_are(self, start, own, expected):
        self.assertEqual(as_fractions(ask_last(*start, books(own))), [Fraction(text) for text in expected.split()])

    def worths_are(self, start, own, expected, by_books=True):
        """What each person is worth by real parts, and by books likewise if that can be told."""
        for p, text in enumerate(expected.split()):
            answered = ask(*start, worth(p, own), bookworth(p, own))[-2:]
            self.assertEqual(as_fraction(answered[0]), Fraction(text))
            if by_books:
                self.assertEqual(as_fraction(answered[1]), Fraction(text))
            else:
                self.assertEqual(answered[1], [-33])


class Books(Worth):
    def test_nobody_holds_anything(self):
        self.values_are([begin(1, 1)], [1000], "1000")
        self.values_are([begin(2, 5)], [1, 0, 1000, 999, 2], "1 0 1000 999 2")
        self.worths_are([begin(2, 5)], [1, 0, 1000, 999, 2], "0 0")

    def test_people_change_nothing_of_it(self):
        start = [begin(2, 2), hold(0, 0, 1, 2), hold(1, 0, 1, 3), hold(0, 1, 1, 1)]
        self.values_are(start, [60, 7], "60 7")
        self.worths_are(start, [60, 7], "37 20")

    def test_the_holder_counts_what_it_holds(self):
        # Company 0 holds a third of company 1, not the other way round.
        start = [begin(1, 2), hold(1, 1, 1, 3), hold(0, 0, 1, 1)]
        self.values_are(start, [10, 30], "20 30")
        self.worths_are(start, [10, 30], "20")

    def test_counted_again_and_again(self):
        start = [begin(1, 4), hold(1, 1, 1, 1), hold(2, 2, 1, 1), hold(3, 3, 1, 1), hold(0, 0, 1, 1)]
        self.values_are(start, [0, 0, 0, 5], "5 5 5 5")
        self.values_are(start, [1, 10, 100, 1000], "1111 1110 1100 1000")
        self.worths_are(start, [1, 10, 100, 1000], "1111")

    def test_held_by_several(self):
        start = [begin(2, 3), hold(2, 2, 1, 2), hold(3, 2, 1, 3), hold(2, 1, 1, 2), hold(0, 0, 1, 1), hold(1, 1, 1, 2)]
        self.values_are(start, [1, 2, 12], "10 6 12")
        self.worths_are(start, [1, 2, 12], "10 3")

    def test_holds_itself_in_part(self):
        self.values_are([begin(1, 1), hold(1, 0, 1, 2)], [10], "20")
        self.values_are([begin(1, 1), hold(1, 0, 99, 100)], [1000], "100000")
        start = [begin(2, 1), hold(2, 0, 2, 5), hold(0, 0, 1, 5), hold(1, 0, 1, 10)]
        self.values_are(start, [7], "35/3")
        self.worths_are(start, [7], "7/3 7/6")

    def test_a_ring_with_a_crack(self):
        start = [begin(1, 2), hold(2, 0, 1, 1), hold(1, 1, 99, 100), hold(0, 1, 1, 100)]
        self.values_are(start, [1, 0], "100 100")
        self.values_are(start, [0, 1], "99 100")
        self.worths_are(start, [1, 0], "1")
        self.worths_are(start, [3, 4], "7")

    def test_a_ring_of_three(self):
        start = [begin(2, 3), hold(2, 1, 1, 2), hold(3, 2, 1, 2), hold(4, 0, 1, 2), hold(0, 0, 1, 4), hold(1, 2, 1, 2)]
        self.values_are(start, [7, 14, 28], "24 34 40")
        self.worths_are(start, [7, 14, 28], "6 20")

    def test_two_rings_in_one(self):
        self.values_are(OPEN, [6, 10, 4], "24 18 16/3")

    def test_nothing_there_is_worth_nothing(self):
        self.values_are(OPEN, [0, 0, 0], "0 0 0")
        self.worths_are(OPEN, [0, 0, 0], "0 0")

    def test_above_1000_by_books(self):
        start = [begin(1, 5)] + [hold(1 + j, j, 99, 100) for j in range(5)] + [hold(0, j, 1, 100) for j in range(5)]
        self.values_are(start, [1000] * 5, "100000 " * 5)
        self.worths_are(start, [1000] * 5, "5000")

    def test_can_not_be_told(self):
        for own in [[0, 0, 0], [1, 0, 1000], [1000] * 3, [0, 1, 0]]:
            for first in [SHUT, [begin(1, 3), hold(2, 0, 1, 1), hold(1, 1, 1, 1)],
                          [begin(1, 3), hold(3, 2, 1, 1), hold(3, 1, 1, 1), hold(0, 0, 1, 1)],
                          [begin(1, 3), hold(2, 0, 1, 1), hold(3, 1, 1, 1), hold(1, 2, 1, 1)]]:
                self.assertEqual(ask_last(*first, books(own)), [-33])
                self.assertEqual(ask_last(*first, bookworth(0, own)), [-33])

    def test_can_be_told_where_the_ring_is_not_closed(self):
        ring = [begin(1, 2), hold(2, 0, 1, 1), hold(1, 1, 1, 1)]
        self.assertEqual(ask_last(*ring, books([0, 0])), [-33])
        self.values_are(ring + [hold(1, 1, 1, 2)], [1, 2], "4 6")
        self.values_are(ring + [hold(1, 1, 0, 2)], [1, 2], "1 3")


class ByRealParts(Worth):
    def test_answered_where_books_can_not_be_told(self):
        self.worths_are(SHUT, [8, 1000, 4], "4 3", by_books=False)
        self.worths_are([begin(1, 1), hold(1, 0, 1, 1)], [1000], "0", by_books=False)
        self.worths_are([begin(2, 2), hold(3, 1, 1, 1), hold(3, 0, 1, 3), hold(1, 0, 2, 3)], [10, 10], "0 20/3",
                        by_books=False)

    def test_what_they_really_own_of_what_it_has_itself(self):
        start = [begin(2, 2), hold(0, 0, 1, 2), hold(1, 0, 1, 2), hold(2, 1, 1, 3), hold(1, 1, 1, 6)]
        self.worths_are(start, [100, 0], "50 50")
        self.worths_are(start, [0, 100], "50/3 100/3")
        self.worths_are(start, [100, 100], "200/3 250/3")

    def test_the_like_of_real(self):
        own = [997, 31, 502]
        for first in [OPEN, SHUT]:
            for p in range(2):
                shares = [as_fraction(one) for one in ask(*first, real(p, 0), real(p, 1), real(p, 2))[-3:]]
                expected = sum(share * has for share, has in zip(shares, own))
                self.assertEqual(as_fraction(ask_last(*first, worth(p, own))), expected)

    def test_parts_that_are_held_of_what_is_told_by_books(self):
        own = [997, 31, 502]
        for p in range(2):
            held = [as_fraction(one) for one in ask(*OPEN, part(p, 0), part(p, 1), part(p, 2))[-3:]]
            values = as_fractions(ask_last(*OPEN, books(own)))
            expected = sum(share * value for share, value in zip(held, values))
            self.assertEqual(as_fraction(ask_last(*OPEN, bookworth(p, own))), expected)


class Lists(Refusing):
    """l that is not right, its edges, and what stands behind it in the line."""

    def test_not_right(self):
        for own in NOT_RIGHT_FOR_3:
            self.refuses(-22, OPEN, books(own), worth(0, own), worth(1, own), bookworth(0, own), bookworth(1, own))

    def test_not_right_ahead_of_not_to_be_told(self):
        for own in NOT_RIGHT_FOR_3:
            self.refuses(-22, SHUT, books(own), worth(0, own), bookworth(0, own), bookworth(1, own))

    def test_no_such_person_ahead_of_all_else(self):
        for start in [OPEN, SHUT]:
            for p in [2, 3, 4, LARGEST]:
                for own in [[1, 2, 3], [], [1001, 0, 0], [LARGEST] * 255]:
                    self.refuses(-2, start, worth(p, own), bookworth(p, own))

    def test_not_to_be_told(self):
        for own in [[0, 0, 0], [1000, 1000, 1000], [1, 2, 3]]:
            self.refuses(-33, SHUT, books(own), bookworth(0, own), bookworth(1, own))

    def test_edges_that_are_right(self):
        for own in [[0, 0, 0], [1000, 1000, 1000], [0, 1000, 1], [1000, 0, 999]]:
            answered = ask(*OPEN, books(own), worth(0, own), bookworth(0, own), state())[-4:]
            self.assertEqual([one[0] for one in answered], [3, 0, 0, 2])

    def test_one_for_each_company_of_every_number(self):
        for n in range(1, 6):
            for size in range(8):
                own = [5] * size
                answered = ask(begin(1, n), hold(0, 0, 1, 1), books(own), worth(0, own), bookworth(0, own), state())[2:]
                if size == n:
                    expected = [[n] + [5, 1] * n, [0, 5, 1], [0, 5, 1], [1, n]]
                else:
                    expected = [[-22], [-22], [-22], [1, n]]
                self.assertEqual(answered, expected)

    def test_a_list_that_looks_like_calls(self):
        # Were the list not passed over whole, its numbers would begin anew.
        own = [0, 1, 1]
        answered = ask(*OPEN, books(own), worth(0, own), bookworth(1, own + [0, 1, 1]), state())[-4:]
        self.assertEqual(answered[2:], [[-22], [2, 3]])


if __name__ == "__main__":
    unittest.main()
