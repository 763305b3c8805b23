"""The list that is handed in, how it is read, and the list that is given back."""

import unittest

from reallyowned.parts import answers, read_calls
from tests.asking import (
    LARGEST, ask, begin, books, bookworth, closed, greatest, hold, holders, line_of, lost, owned, part, real,
    realstrewn, rings, state, strewn, worth,
)

ONE_OF_EACH = [
    begin(1, 2), hold(2, 0, 1, 1), hold(1, 1, 1, 2), hold(0, 1, 1, 3), part(1, 1), strewn(1), real(0, 0),
    realstrewn(0), lost(0), rings(), hold(9, 0, 1, 1), begin(9, 9), hold(2, 1, 1, 2), hold(1, 1, 1, 1),
    closed(), greatest(1), owned(0), books([9, 3]), worth(0, [9, 3]), bookworth(0, [9, 3]), holders(1), state(),
]


class Answers(unittest.TestCase):
    def test_flat_list_of_counts_and_numbers(self):
        self.assertEqual(answers(line_of(ONE_OF_EACH)), [
            1, 0, 3, 0, 0, 1, 3, 0, 0, 1, 3, 0, 0, 1, 3, 0, 1, 2, 3, 0, 1, 6, 3, 0, 2, 3,
            3, 0, 1, 3, 3, 0, 0, 1, 1, 0, 1, -2, 1, -22, 1, -33, 1, -33,
            1, 0, 3, 0, 2, 3, 5, 2, 2, 3, 2, 3, 5, 2, 21, 1, 24, 1, 3, 0, 8, 1, 3, 0, 8, 1, 7, 2, 0, 1, 3, 1, 1, 2,
            2, 1, 2,
        ])
        self.assertEqual(answers([7]), [1, -11])
        self.assertEqual(answers([0, 1, 3, 1, 1, 0, 1, 1, 1, 3, 2, 1, 1, 7])[-4:], [3, 2, 0, 2])

    def test_plain_ints_in_a_plain_list(self):
        answered = answers(line_of(ONE_OF_EACH))
        self.assertIs(type(answered), list)
        self.assertEqual({type(number) for number in answered}, {int})

    def test_what_is_handed_in_is_as_it_was(self):
        calls = line_of(ONE_OF_EACH)
        kept = list(calls)
        answers(calls)
        self.assertEqual(calls, kept)

    def test_handed_in_twice_is_answered_the_same(self):
        calls = line_of(ONE_OF_EACH)
        first = answers(calls)
        kept = list(first)
        self.assertEqual(answers(calls), kept)
        self.assertEqual(first, kept)

    def test_nothing_is_kept_between_lines(self):
        answers(line_of(ONE_OF_EACH))
        self.assertEqual(answers(part(0, 0)), [1, -11])
        self.assertEqual(answers(begin(1, 1) + part(0, 0)), [1, 0, 3, 0, 0, 1])

    def test_what_is_given_back_may_be_changed(self):
        calls = begin(1, 1) + hold(0, 0, 1, 2) + part(0, 0)
        answers(calls).clear()
        self.assertEqual(answers(calls), [1, 0, 3, 0, 0, 1, 3, 0, 1, 2])

    def test_40_calls(self):
        calls = [begin(1, 1)] + [hold(0, 0, a, 40) for a in range(1, 40)]
        answered = ask(*calls)
        self.assertEqual(len(answered), 40)
        self.assertEqual(answered[-1], [0, 19, 20])

    def test_40_calls_with_all_sixteen_of_them(self):
        own = [10, 20]
        calls = [
            state(), books(own), begin(1, 6), begin(2, 2), hold(0, 0, 1, 2), hold(3, 0, 1, 2), hold(1, 1, 1, 4),
            hold(2, 1, 1, 2), part(3, 0), strewn(1), real(0, 1), realstrewn(0), lost(0), rings(), closed(), greatest(1),
            owned(1), books(own), books([10, 20, 30]), worth(0, own), bookworth(0, own), bookworth(2, []), holders(1),
            state(), hold(0, 0, 0, 1), hold(3, 0, 1, 1), hold(1, 1, 0, 1), hold(2, 1, 1, 1), rings(), closed(),
            greatest(0), owned(0), books(own), worth(1, own), bookworth(1, own), bookworth(1, [LARGEST] * 255), lost(1),
            begin(1, 1), holders(0), holders(1),
        ]
        self.assertEqual(len(calls), 40)
        self.assertEqual({call[0] for call in calls}, set(range(16)))
        line = line_of(calls)
        kept = list(line)
        answered = ask(*calls)
        self.assertEqual(answered, [
            [-11], [-11], [-22], [0], [0, 0, 1], [0, 0, 1], [0, 0, 1],
            [0, 0, 1], [0, 1, 2], [0, 1, 4], [0, 1, 3], [0, 1, 6], [0, 0, 1], [0], [0], [0, 1, 3],
            [2, 1, 6, 1, 3], [2, 80, 3, 100, 3], [-22], [0, 40, 3], [0, 40, 3], [-2], [2, 1, 1, 4, 2, 1, 2],
            [2, 2], [0, 1, 2], [0, 1, 2], [0, 1, 4], [0, 1, 2], [2, 0, 1], [2, 0, 1],
            [-33], [2, 0, 1, 0, 1], [-33], [0, 0, 1], [-33], [-22], [0, 1, 1],
            [0], [0], [-2],
        ])
        flat = [number for one in answered for number in [len(one)] + one]
        self.assertEqual(answers(line), flat)
        self.assertEqual(answers(line), flat)
        self.assertEqual(line, kept)

    def test_40_calls_on_the_largest_state(self):
        holds = [hold(h, j, 1, 100 - 3 * h - j) for j in range(5) for h in range(j, j + 4)]
        calls = [begin(4, 5)] + holds
        questions = [real(p, j) for p in range(4) for j in range(5)][1:]
        answered = ask(*calls, *questions)
        self.assertEqual(len(answered), 40)
        self.assertEqual([one[0] for one in answered], [0] * 40)


class ReadCalls(unittest.TestCase):
    def test_every_kind_of_call(self):
        shapes = [2, 4, 2, 1, 2, 1, 1, 0, 0, 1, 1, 0, 1, 1, 1, 0]
        with_row = [11, 12, 13]
        for row in [[], [0], [7, 8, 9], [LARGEST] * 255]:
            calls = []
            expected = []
            for number, size in enumerate(shapes):
                numbers = [100 + number + k for k in range(size)]
                rows = [row] if number in with_row else []
                calls += [number] + numbers
                for one in rows:
                    calls += [len(one)] + one
                expected.append((number, numbers, rows))
            self.assertEqual(read_calls(calls), expected)

    def test_the_longest_line(self):
        calls = ([13, 0, 255] + [LARGEST] * 255) * 40
        self.assertEqual(read_calls(calls), [(13, [0], [[LARGEST] * 255])] * 40)

    def test_rows_are_passed_over_before_a_begin(self):
        line = [11, 2, 0, 0, 12, 0, 3, 0, 1, 1, 13, 0, 0, 0, 1, 1, 3, 0]
        self.assertEqual(answers(line), [1, -11, 1, -11, 1, -11, 1, 0, 3, 0, 1, 1])


if __name__ == "__main__":
    unittest.main()
