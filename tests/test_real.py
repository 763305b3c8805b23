"""real, realstrewn, lost and rings."""

import itertools
import unittest
from fractions import Fraction

from reallyowned.ends import final_rows
from reallyowned.holdings import Holdings
from tests.asking import (
    LARGEST, Numbers, Refusing, as_fraction, ask, ask_state, begin, hold, lost, mixed_state, real, realstrewn, rings,
    state_calls,
)


def ends_of(start, m, n):
    """Of each company what each person really owns, what is strewn in the end, what is lost; then the rings."""
    questions = []
    for j in range(n):
        questions += [real(p, j) for p in range(m)] + [realstrewn(j), lost(j)]
    answered = ask_state(start, questions + [rings()])
    values = [as_fraction(one) for one in answered[:-1]]
    return [values[j * (m + 2):(j + 1) * (m + 2)] for j in range(n)], answered[-1]


class Ends(unittest.TestCase):
    def ends_are(self, start, expected, losing):
        m, n = start[0][1:]
        rows = [[Fraction(text) for text in row.split()] for row in expected]
        self.assertEqual(ends_of(start, m, n), (rows, [len(losing)] + losing))

    def test_people_alone(self):
        self.ends_are([begin(2, 1), hold(0, 0, 1, 2), hold(1, 0, 1, 3)], ["1/2 1/3 1/6 0"], [])

    def test_through_one_company(self):
        self.ends_are([begin(2, 2), hold(0, 0, 1, 2), hold(1, 0, 1, 2), hold(2, 1, 1, 3), hold(1, 1, 1, 6)],
                      ["1/2 1/2 0 0", "1/6 1/3 1/2 0"], [])

    def test_through_a_row_of_five(self):
        start = [begin(1, 5), hold(0, 4, 1, 2)] + [hold(1 + j + 1, j, 1, 2) for j in range(4)]
        self.ends_are(start, ["1/32 31/32 0", "1/16 15/16 0", "1/8 7/8 0", "1/4 3/4 0", "1/2 1/2 0"], [])
        start = [begin(1, 5), hold(0, 0, 1, 2)] + [hold(1 + j - 1, j, 1, 2) for j in range(1, 5)]
        self.ends_are(start, ["1/2 1/2 0", "1/4 3/4 0", "1/8 7/8 0", "1/16 15/16 0", "1/32 31/32 0"], [])

    def test_two_ways_come_together(self):
        self.ends_are([begin(1, 3), hold(0, 0, 1, 1), hold(1, 1, 1, 2), hold(1, 2, 1, 3), hold(2, 2, 1, 3)],
                      ["1 0 0", "1/2 1/2 0", "1/2 1/2 0"], [])

    def test_nobody_holds_anything(self):
        self.ends_are([begin(2, 2)], ["0 0 1 0", "0 0 1 0"], [])

    def test_a_part_of_0_and_all_of_it(self):
        self.ends_are([begin(1, 2), hold(0, 0, 0, 5), hold(1, 1, 0, 3)], ["0 1 0", "0 1 0"], [])
        self.ends_are([begin(1, 2), hold(0, 0, 1, 1), hold(1, 1, 1, 1)], ["1 0 0", "1 0 0"], [])

    def test_holds_itself_in_part(self):
        self.ends_are([begin(1, 1), hold(1, 0, 1, 2)], ["0 1 0"], [])
        self.ends_are([begin(1, 1), hold(1, 0, 1, 2), hold(0, 0, 1, 2)], ["1 0 0"], [])
        self.ends_are([begin(2, 1), hold(2, 0, 99, 100), hold(0, 0, 1, 100)], ["1 0 0 0"], [])
        self.ends_are([begin(2, 1), hold(2, 0, 1, 4), hold(0, 0, 1, 2), hold(1, 0, 1, 8)], ["2/3 1/6 1/6 0"], [])

    def test_holds_itself_wholly(self):
        self.ends_are([begin(1, 1), hold(1, 0, 1, 1)], ["0 0 1"], [0])
        self.ends_are([begin(1, 2), hold(2, 1, 7, 7), hold(0, 0, 1, 1)], ["1 0 0", "0 0 1"], [1])

    def test_two_that_hold_each_other_wholly(self):
        self.ends_are([begin(1, 2), hold(2, 0, 1, 1), hold(1, 1, 1, 1)], ["0 0 1", "0 0 1"], [0, 1])
        self.ends_are([begin(1, 3), hold(3, 1, 1, 1), hold(2, 2, 1, 1), hold(0, 0, 1, 2)],
                      ["1/2 1/2 0", "0 0 1", "0 0 1"], [1, 2])

    def test_a_ring_of_five_wholly(self):
        start = [begin(1, 5)] + [hold(1 + (j + 1) % 5, j, 1, 1) for j in range(5)]
        self.ends_are(start, ["0 0 1"] * 5, [0, 1, 2, 3, 4])

    def test_a_closed_ring_with_two_ways(self):
        self.ends_are([begin(1, 3), hold(2, 0, 1, 2), hold(3, 0, 1, 2), hold(1, 1, 1, 1), hold(1, 2, 1, 1)],
                      ["0 0 1"] * 3, [0, 1, 2])

    def test_a_ring_with_a_crack(self):
        self.ends_are([begin(1, 2), hold(2, 0, 1, 1), hold(1, 1, 99, 100)], ["0 1 0", "0 1 0"], [])
        self.ends_are([begin(1, 2), hold(2, 0, 1, 1), hold(1, 1, 99, 100), hold(0, 1, 1, 100)],
                      ["1 0 0", "1 0 0"], [])
        self.ends_are([begin(2, 2), hold(3, 0, 1, 2), hold(0, 0, 1, 2), hold(2, 1, 1, 3), hold(1, 1, 1, 3)],
                      ["3/5 1/5 1/5 0", "1/5 2/5 2/5 0"], [])

    def test_a_crack_that_is_mended(self):
        ring = [begin(1, 2), hold(2, 0, 1, 1), hold(1, 1, 1, 1)]
        self.ends_are(ring + [hold(1, 1, 1, 2), hold(0, 1, 1, 2)], ["1 0 0", "1 0 0"], [])
        self.ends_are(ring + [hold(1, 1, 1, 2), hold(0, 1, 1, 2), hold(0, 1, 0, 2), hold(1, 1, 1, 1)],
                      ["0 0 1", "0 0 1"], [0, 1])

    def test_held_by_one_that_is_closed(self):
        self.ends_are([begin(1, 2), hold(1, 0, 1, 1), hold(1, 1, 1, 1)], ["0 0 1", "0 0 1"], [0, 1])
        self.ends_are([begin(1, 2), hold(2, 1, 1, 1), hold(2, 0, 1, 3), hold(0, 0, 1, 2)],
                      ["1/2 1/6 1/3", "0 0 1"], [0, 1])
        self.ends_are([begin(1, 3), hold(3, 2, 1, 1), hold(3, 1, 1, 2), hold(2, 0, 1, 2), hold(1, 0, 1, 4)],
                      ["0 2/3 1/3", "0 1/2 1/2", "0 0 1"], [0, 1, 2])

    def test_two_closed_rings_share_a_third(self):
        self.ends_are([begin(1, 3), hold(1, 0, 1, 1), hold(3, 2, 1, 1), hold(1, 1, 1, 4), hold(3, 1, 1, 4),
                       hold(2, 1, 1, 4)], ["0 0 1", "0 1/3 2/3", "0 0 1"], [0, 1, 2])


class Refused(Refusing):
    def test_no_such_person_or_company(self):
        start = [begin(2, 3), hold(0, 0, 1, 3), hold(2, 1, 1, 1)]
        wrong = [real(2, 0), real(0, 3), real(2, 3), real(LARGEST, 0), real(0, LARGEST), real(LARGEST, LARGEST),
                 realstrewn(3), realstrewn(4), realstrewn(LARGEST), lost(3), lost(4), lost(LARGEST)]
        self.refuses(-2, start, *wrong)

    def test_a_company_is_no_person(self):
        answered = ask(begin(1, 2), hold(1, 1, 1, 1), real(0, 1), real(1, 1))
        self.assertEqual(answered[2:], [[0, 0, 1], [-2]])


class WhatHolds(unittest.TestCase):
    """Many states, with another way to tell what is right.

    What is really owned, or strewn in the end, of a company is what goes there in one step, and
    of what goes to companies, the like of these; and of a company from which no way leads out it
    is 0. There is just one row of numbers by which that is so.
    """

    def lets_out(self, parts, m, n):
        out = [sum(parts.get((m + k, j), 0) for k in range(n)) < 1 for j in range(n)]
        for step in range(n):
            out = [out[j] or any(out[k] and parts.get((m + k, j), 0) > 0 for k in range(n)) for j in range(n)]
        return out

    def check(self, m, n, parts):
        rows, losing = ends_of(state_calls(m, n, parts), m, n)
        out = self.lets_out(parts, m, n)
        for j in range(n):
            self.assertEqual(sum(rows[j]), 1, parts)
            self.assertTrue(all(0 <= x <= 1 for x in rows[j]), parts)
            self.assertEqual(rows[j][m + 1] == 1, not out[j], parts)
            first = [parts.get((p, j), 0) for p in range(m)]
            first.append(1 - sum(parts.get((h, j), 0) for h in range(m + n)))
            for place in range(m + 1):
                onward = sum(parts.get((m + k, j), 0) * rows[k][place] for k in range(n))
                self.assertEqual(rows[j][place], first[place] + onward, parts)
        lossy = [j for j in range(n) if rows[j][m + 1] > 0]
        self.assertEqual(losing, [len(lossy)] + lossy, parts)
        return len(lossy)

    def test_mixed_states_of_every_size(self):
        numbers = Numbers(2)
        lossy = 0
        for m in range(1, 5):
            for n in range(1, 6):
                for turn in range(60):
                    lossy += self.check(m, n, mixed_state(numbers, m, n)) > 0
        # Rings must be among them, and states without any.
        self.assertGreater(lossy, 200)
        self.assertLess(lossy, 1000)

    def test_all_states_of_two_companies_in_thirds(self):
        columns = [c for c in itertools.product(range(4), repeat=3) if sum(c) <= 3]
        self.check_all(1, columns, 2, 3)

    def test_all_states_of_three_companies_in_halves(self):
        columns = [c for c in itertools.product(range(3), repeat=4) if sum(c) <= 2]
        self.check_all(1, columns, 3, 2)

    def check_all(self, m, columns, n, lower):
        for state in itertools.product(columns, repeat=n):
            parts = {(h, j): Fraction(a, lower) for j, c in enumerate(state) for h, a in enumerate(c) if a}
            self.check(m, n, parts)

    def test_behind_all_steps_nothing_is_left_with_companies(self):
        numbers = Numbers(4)
        for turn in range(100):
            m, n = 1 + numbers.below(4), 1 + numbers.below(5)
            holdings = Holdings()
            holdings.begin(m, n)
            for (h, j), x in mixed_state(numbers, m, n).items():
                holdings.give(h, j, (x.numerator, x.denominator))
            for row in final_rows(holdings):
                self.assertEqual(row[m:m + n], [(0, 1)] * n)
                self.assertEqual(sum(Fraction(upper, lower) for upper, lower in row), 1)

    def test_near_behind_many_steps(self):
        numbers = Numbers(3)
        for turn in range(60):
            m, n = 1 + numbers.below(4), 1 + numbers.below(5)
            parts = mixed_state(numbers, m, n)
            rows, losing = ends_of(state_calls(m, n, parts), m, n)
            for j in range(n):
                came = self.behind_steps(parts, m, n, j, 5000)
                for place in range(m + 1):
                    self.assertAlmostEqual(float(rows[j][place]), came[place], places=6, msg=str(parts))

    def behind_steps(self, parts, m, n, company, steps):
        goes = [[float(parts.get((h, k), 0)) for h in range(m + n)] for k in range(n)]
        left = [float(1 - sum(parts.get((h, k), 0) for h in range(m + n))) for k in range(n)]
        came = [0.0] * (m + 1)
        at = [1.0 if k == company else 0.0 for k in range(n)]
        for step in range(steps):
            for p in range(m):
                came[p] += sum(at[k] * goes[k][p] for k in range(n))
            came[m] += sum(at[k] * left[k] for k in range(n))
            at = [sum(at[k] * goes[k][m + to] for k in range(n)) for to in range(n)]
        return came


if __name__ == "__main__":
    unittest.main()
