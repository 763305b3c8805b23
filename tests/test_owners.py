"""holders, state, owned, greatest and closed."""

import unittest

from tests.asking import (
    LARGEST, Refusing, ask, ask_last, begin, closed, greatest, hold, holders, lost, owned, real, rings, state,
)


class Holders(Refusing):
    def test_by_their_numbers_whatever_came_first(self):
        start = [begin(2, 3), hold(4, 1, 1, 6), hold(1, 1, 2, 8), hold(2, 1, 1, 3), hold(0, 1, 1, 5), hold(1, 0, 1, 1)]
        self.assertEqual(ask(*start, holders(0), holders(1), holders(2))[-3:],
                         [[1, 1, 1, 1], [4, 0, 1, 5, 1, 1, 4, 2, 1, 3, 4, 1, 6], [0]])

    def test_a_part_of_0_is_no_part(self):
        start = [begin(2, 2), hold(0, 0, 0, 1), hold(1, 0, 1, 2), hold(2, 0, 0, 100), hold(3, 0, 1, 2)]
        self.assertEqual(ask_last(*start, holders(0)), [2, 1, 1, 2, 3, 1, 2])
        self.assertEqual(ask_last(*start, hold(1, 0, 0, 5), holders(0)), [1, 3, 1, 2])
        self.assertEqual(ask_last(*start, hold(1, 0, 0, 5), hold(3, 0, 0, 5), holders(0)), [0])

    def test_the_company_itself(self):
        start = [begin(1, 3), hold(2, 1, 1, 4), hold(3, 1, 1, 4), hold(1, 1, 1, 4), hold(0, 1, 1, 4)]
        self.assertEqual(ask_last(*start, holders(1)), [4, 0, 1, 4, 1, 1, 4, 2, 1, 4, 3, 1, 4])
        self.assertEqual(ask_last(begin(1, 1), hold(1, 0, 100, 100), holders(0)), [1, 1, 1, 1])

    def test_in_one_step_alone(self):
        self.assertEqual(ask_last(begin(1, 2), hold(0, 0, 1, 1), hold(1, 1, 1, 1), holders(1)), [1, 1, 1, 1])

    def test_as_many_as_there_may_be(self):
        start = [begin(4, 5)] + [hold(h, 4, 1, 9) for h in range(8, -1, -1)]
        self.assertEqual(ask_last(*start, holders(4)), [9] + [number for h in range(9) for number in (h, 1, 9)])

    def test_what_was_refused_is_not_held(self):
        start = [begin(2, 1), hold(0, 0, 2, 3), hold(1, 0, 1, 2), hold(1, 0, 1, 101), hold(3, 0, 1, 9)]
        self.assertEqual(ask(*start, holders(0))[1:], [[0, 0, 1], [-33], [-22], [-2], [1, 0, 2, 3]])

    def test_no_such_company(self):
        self.refuses(-2, [begin(2, 3), hold(0, 2, 1, 3), hold(3, 0, 1, 1)], holders(3), holders(4), holders(LARGEST))


class State(unittest.TestCase):
    def test_every_size(self):
        for m in range(1, 5):
            for n in range(1, 6):
                self.assertEqual(ask_last(begin(m, n), state()), [m, n])

    def test_of_the_last_begin_that_answers_0(self):
        answered = ask(state(), begin(5, 2), state(), begin(4, 2), state(), begin(4, 6), state(), begin(0, 1), state(),
                       begin(2, 5), hold(0, 0, 1, 1), hold(9, 9, 9, 9), state())
        self.assertEqual(answered[::2][:5], [[-11], [-11], [4, 2], [4, 2], [4, 2]])
        self.assertEqual(answered[-1], [2, 5])


class Owned(Refusing):
    start = [begin(2, 3), hold(0, 0, 1, 2), hold(1, 0, 1, 2), hold(2, 1, 1, 3), hold(1, 1, 1, 6), hold(3, 2, 1, 1)]

    def test_of_each_company(self):
        self.assertEqual(ask(*self.start, owned(0), owned(1))[-2:],
                         [[3, 1, 2, 1, 6, 1, 6], [3, 1, 2, 1, 3, 1, 3]])

    def test_the_like_of_real(self):
        for p in range(2):
            answered = ask(*self.start, owned(p), real(p, 0), real(p, 1), real(p, 2))[-4:]
            self.assertEqual(answered[0], [3] + answered[1][1:] + answered[2][1:] + answered[3][1:])

    def test_nothing_of_what_is_lost_or_strewn(self):
        self.assertEqual(ask_last(begin(1, 2), hold(1, 0, 1, 1), owned(0)), [2, 0, 1, 0, 1])
        self.assertEqual(ask_last(begin(1, 2), hold(1, 0, 1, 1), hold(1, 1, 1, 2), hold(0, 1, 1, 4), owned(0)),
                         [2, 0, 1, 1, 4])

    def test_no_such_person(self):
        self.refuses(-2, self.start, owned(2), owned(3), owned(LARGEST))
        self.refuses(-2, [begin(1, 5), hold(1, 0, 1, 1)], owned(1), owned(4), owned(5))


class Greatest(Refusing):
    def test_who_really_owns_most(self):
        start = [begin(3, 1), hold(0, 0, 1, 4), hold(1, 0, 1, 2), hold(2, 0, 1, 5)]
        self.assertEqual(ask_last(*start, greatest(0)), [1, 1, 2])
        self.assertEqual(ask_last(*start, hold(0, 0, 0, 1), hold(1, 0, 0, 1), greatest(0)), [2, 1, 5])
        self.assertEqual(ask_last(*start, hold(1, 0, 1, 8), greatest(0)), [0, 1, 4])

    def test_through_companies_too(self):
        # In one step person 0 has most of company 1, in the end person 1.
        start = [begin(2, 2), hold(1, 0, 1, 1), hold(0, 1, 2, 5), hold(1, 1, 1, 5), hold(2, 1, 2, 5)]
        self.assertEqual(ask(*start, greatest(0), greatest(1))[-2:], [[1, 1, 1], [1, 3, 5]])
        start = [begin(2, 1), hold(1, 0, 1, 100), hold(2, 0, 99, 100)]
        self.assertEqual(ask_last(*start, greatest(0)), [1, 1, 1])

    def test_of_like_ones_the_first(self):
        self.assertEqual(ask_last(begin(2, 1), hold(1, 0, 1, 2), hold(0, 0, 1, 2), greatest(0)), [0, 1, 2])
        start = [begin(4, 1), hold(3, 0, 1, 3), hold(1, 0, 1, 3), hold(2, 0, 33, 100)]
        self.assertEqual(ask_last(*start, greatest(0)), [1, 1, 3])
        start = [begin(4, 1), hold(0, 0, 1, 9), hold(3, 0, 2, 6), hold(2, 0, 1, 3)]
        self.assertEqual(ask_last(*start, greatest(0)), [2, 1, 3])
        # Alike in the end alone: person 2 through company 1.
        start = [begin(3, 2), hold(2, 1, 1, 1), hold(4, 0, 1, 3), hold(1, 0, 1, 3)]
        self.assertEqual(ask_last(*start, greatest(0)), [1, 1, 3])

    def test_by_a_hair(self):
        start = [begin(2, 1), hold(0, 0, 49, 99), hold(1, 0, 50, 100)]
        self.assertEqual(ask_last(*start, greatest(0)), [1, 1, 2])
        start = [begin(2, 1), hold(0, 0, 49, 99), hold(1, 0, 48, 97)]
        self.assertEqual(ask_last(*start, greatest(0)), [0, 49, 99])

    def test_more_is_strewn_or_lost_than_anybody_owns(self):
        start = [begin(2, 2), hold(3, 1, 1, 1), hold(1, 0, 1, 100), hold(3, 0, 1, 2)]
        self.assertEqual(ask_last(*start, greatest(0)), [1, 1, 100])

    def test_nobody_really_owns_any(self):
        self.refuses(-33, [begin(2, 2)], greatest(0), greatest(1))
        self.refuses(-33, [begin(2, 2), hold(0, 1, 1, 1), hold(1, 0, 0, 3)], greatest(0))
        self.refuses(-33, [begin(1, 3), hold(1, 0, 1, 1), hold(1, 1, 1, 2), hold(3, 1, 1, 2)],
                     greatest(0), greatest(1), greatest(2))
        self.refuses(-33, [begin(1, 2), hold(2, 0, 1, 1), hold(1, 1, 1, 1)], greatest(0), greatest(1))

    def test_no_such_company_ahead_of_nobody(self):
        self.refuses(-2, [begin(2, 2)], greatest(2), greatest(3), greatest(LARGEST))
        self.refuses(-2, [begin(2, 2), hold(0, 0, 1, 1)], greatest(2), greatest(LARGEST))


class Closed(unittest.TestCase):
    def closed_and_rings_are(self, start, shut, losing):
        self.assertEqual(ask(*start, closed(), rings())[-2:], [[len(shut)] + shut, [len(losing)] + losing])

    def test_none(self):
        self.closed_and_rings_are([begin(1, 1)], [], [])
        self.closed_and_rings_are([begin(1, 2), hold(0, 0, 1, 1), hold(1, 1, 1, 1)], [], [])

    def test_holds_itself(self):
        self.closed_and_rings_are([begin(1, 2), hold(2, 1, 1, 1)], [1], [1])
        self.closed_and_rings_are([begin(1, 2), hold(2, 1, 99, 100)], [], [])

    def test_a_ring(self):
        for n in range(2, 6):
            ring = [begin(1, n)] + [hold(1 + (j + 1) % n, j, 1, 1) for j in range(n)]
            self.closed_and_rings_are(ring, list(range(n)), list(range(n)))
            self.closed_and_rings_are(ring + [hold(1, n - 1, 99, 100)], [], [])
            self.closed_and_rings_are(ring + [hold(1, n - 1, 99, 100), hold(0, n - 1, 1, 100)], [], [])

    def test_held_in_part_by_a_closed_one_stands_in_rings_alone(self):
        self.closed_and_rings_are([begin(1, 3), hold(2, 1, 1, 1), hold(2, 2, 1, 2)], [1], [1, 2])
        self.closed_and_rings_are([begin(1, 3), hold(2, 1, 1, 1), hold(2, 0, 99, 100), hold(0, 0, 1, 100)],
                                  [1], [0, 1])
        # Company 0 is held by company 2, and that in part by company 1, which is closed.
        self.closed_and_rings_are([begin(1, 3), hold(2, 1, 1, 1), hold(2, 2, 1, 9), hold(3, 0, 1, 1)],
                                  [1], [0, 1, 2])

    def test_wholly_held_by_closed_ones_stands_in_both(self):
        self.closed_and_rings_are([begin(1, 2), hold(2, 1, 1, 1), hold(2, 0, 1, 1)], [0, 1], [0, 1])
        self.closed_and_rings_are([begin(1, 3), hold(1, 0, 1, 1), hold(3, 2, 1, 1), hold(1, 1, 1, 3),
                                   hold(3, 1, 2, 3)], [0, 1, 2], [0, 1, 2])
        # In two steps, and partly by itself.
        self.closed_and_rings_are([begin(1, 4), hold(4, 3, 1, 1), hold(4, 1, 1, 1), hold(2, 0, 1, 2), hold(1, 0, 1, 2)],
                                  [0, 1, 3], [0, 1, 3])

    def test_rising(self):
        start = [begin(1, 5), hold(5, 2, 1, 1), hold(3, 4, 1, 1), hold(1, 0, 1, 1), hold(3, 1, 1, 2)]
        self.closed_and_rings_are(start, [0, 2, 4], [0, 1, 2, 4])

    def test_all_is_lost_of_it(self):
        start = [begin(1, 3), hold(2, 1, 1, 1), hold(2, 2, 1, 2)]
        self.assertEqual(ask(*start, lost(0), lost(1), lost(2))[-3:], [[0, 0, 1], [0, 1, 1], [0, 1, 2]])


if __name__ == "__main__":
    unittest.main()
