"""What holds over all, over many different states."""

import unittest

from tests.asking import (
    LARGEST, Numbers, all_questions, as_fraction, as_fractions, ask, ask_last, ask_state, begin, books, bookworth,
    closed, greatest, hold, holders, lost, mixed_state, owned, part, real, realstrewn, rings, state_calls, strewn,
    worth,
)


def mixed_states(seed, turns):
    """So many states of every size: m, n, and the calls that lead there."""
    numbers = Numbers(seed)
    return [
        (m, n, state_calls(m, n, mixed_state(numbers, m, n)))
        for turn in range(turns) for m in range(1, 5) for n in range(1, 6)
    ]


def mixed_own(numbers, n):
    return [numbers.one_of([0, 1, 2, 10, 77, 360, 999, 1000]) for j in range(n)]


class WhatHolds(unittest.TestCase):
    def test_owned_strewn_and_lost_are_1(self):
        seen = {}
        for m, n, start in mixed_states(11, 40):
            shares = [as_fractions(one) for one in ask_state(start, [owned(p) for p in range(m)])]
            scattered = [as_fraction(one) for one in ask_state(start, [realstrewn(j) for j in range(n)])]
            gone = [as_fraction(one) for one in ask_state(start, [lost(j) for j in range(n)])]
            for j in range(n):
                self.assertEqual(sum(share[j] for share in shares) + scattered[j] + gone[j], 1, start)
                self.assertTrue(all(share[j] >= 0 for share in shares), start)
                seen[(gone[j] > 0) + (gone[j] == 1)] = True
            shut, losing = ask_state(start, [closed(), rings()])
            self.assertEqual(shut[1:], [j for j in range(n) if gone[j] == 1], start)
            self.assertEqual(losing[1:], [j for j in range(n) if gone[j] > 0], start)
        self.assertEqual(sorted(seen), [0, 1, 2])

    def test_greatest_is_the_greatest_of_owned(self):
        for m, n, start in mixed_states(12, 30):
            shares = [as_fractions(one) for one in ask_state(start, [owned(p) for p in range(m)])]
            for j in range(n):
                most = max(share[j] for share in shares)
                first = [share[j] for share in shares].index(most)
                expected = [first, most.numerator, most.denominator] if most else [-33]
                self.assertEqual(ask_last(*start, greatest(j)), expected, start)

    def test_books_can_be_told_just_if_no_company_is_closed(self):
        numbers = Numbers(13)
        told = 0
        states = mixed_states(14, 60)
        for m, n, start in states:
            own = mixed_own(numbers, n)
            shut, values = ask(*start, closed(), books(own))[-2:]
            self.assertEqual(values == [-33], shut != [0], start)
            told += values != [-33]
            for p in range(m):
                by_real, by_books = ask(*start, worth(p, own), bookworth(p, own))[-2:]
                self.assertEqual(by_real[0], 0, start)
                self.assertEqual(by_books, by_real if shut == [0] else [-33], start)
        # Both must be among them.
        self.assertGreater(told, 300)
        self.assertLess(told, len(states) - 300)

    def test_by_books_it_is_so_for_all_at_once(self):
        numbers = Numbers(15)
        for m, n, start in mixed_states(16, 30):
            own = mixed_own(numbers, n)
            answered = ask_last(*start, books(own))
            if answered == [-33]:
                continue
            values = as_fractions(answered)
            for i in range(n):
                held = [as_fraction(one) for one in ask_state(start, [part(m + i, j) for j in range(n)])]
                self.assertEqual(values[i], own[i] + sum(x * value for x, value in zip(held, values)), start)

    def test_what_people_and_nobody_have_is_all_that_is_there(self):
        # If nothing is strewn or lost, the people are worth together what the companies have themselves.
        numbers = Numbers(17)
        for turn in range(60):
            m, n = 1 + numbers.below(4), 1 + numbers.below(5)
            start = [begin(m, n)]
            for j in range(n):
                share = 1 + numbers.below(9)
                start += [hold(m + numbers.below(n), j, share, 10), hold(numbers.below(m), j, 10 - share, 10)]
            own = mixed_own(numbers, n)
            for asked in [worth, bookworth]:
                all_worth = [as_fraction(one) for one in ask_state(start, [asked(p, own) for p in range(m)])]
                self.assertEqual(sum(all_worth), sum(own), start)

    def test_what_is_refused_changes_nothing(self):
        refused = {}
        for m, n, start in mixed_states(18, 3):
            questions = all_questions(m, n)
            before = ask_state(start, questions)
            wrong = self.may_be_refused(m, n)
            for one in wrong:
                answer = ask_last(*start, one)
                if answer[0] < 0:
                    self.assertEqual(len(answer), 1)
                    refused[(one[0], answer[0])] = True
                    self.assertEqual(ask_state(start + [one], questions), before, (start, one))
        self.assertEqual(sorted(refused), sorted([
            (0, -22), (1, -2), (1, -22), (1, -33), (2, -2), (3, -2), (4, -2), (5, -2), (6, -2), (9, -2), (9, -33),
            (10, -2), (11, -22), (11, -33), (12, -2), (12, -22), (13, -2), (13, -22), (13, -33), (14, -2),
        ]))

    def may_be_refused(self, m, n):
        good = [1] * n
        calls = [begin(0, n), begin(m, 6), begin(LARGEST, LARGEST)]
        calls += [hold(m + n, 0, 1, 2), hold(0, n, 1, 2), hold(0, 0, 2, 1), hold(0, 0, 0, 0)]
        calls += [hold(0, j, 1, 1) for j in range(n)] + [hold(m + n - 1, 0, 1, 1)]
        calls += [part(m + n, 0), part(0, n), strewn(n), real(m, 0), real(0, n), realstrewn(n), lost(n)]
        calls += [greatest(n)] + [greatest(j) for j in range(n)] + [owned(m), holders(n)]
        calls += [books([]), books(good + [1]), books([1001] * n), books(good)]
        calls += [worth(m, good), worth(0, good[1:]), worth(0, [LARGEST] * 255)]
        calls += [bookworth(m, good), bookworth(0, []), bookworth(0, [1001] * n), bookworth(0, good)]
        return calls


if __name__ == "__main__":
    unittest.main()
