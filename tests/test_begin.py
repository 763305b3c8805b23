"""begin, and what is answered before one that answers 0."""

import unittest

from tests.asking import (
    LARGEST, OWN, all_questions, ask, ask_last, ask_state, begin, books, bookworth, closed, greatest, hold, holders,
    lost, owned, part, real, realstrewn, rings, state, strewn, worth,
)

OTHERS = [
    hold(0, 0, 1, 2), part(0, 0), strewn(0), real(0, 0), realstrewn(0), lost(0), rings(),
    closed(), greatest(0), owned(0), books([1]), worth(0, [1]), bookworth(0, [1]), holders(0), state(),
]
WRONG_OTHERS = [
    hold(LARGEST, LARGEST, LARGEST, LARGEST), hold(0, 0, 1, 0), hold(0, 0, 2, 1), part(9, 9), strewn(5),
    real(4, 5), realstrewn(LARGEST), lost(LARGEST),
    greatest(LARGEST), owned(LARGEST), books([]), books([1001]), books([LARGEST] * 255), worth(LARGEST, []),
    worth(0, [LARGEST] * 255), bookworth(LARGEST, []), bookworth(0, [LARGEST] * 255), holders(LARGEST),
]
BAD_BEGINS = [
    begin(0, 1), begin(1, 0), begin(0, 0), begin(5, 1), begin(1, 6), begin(5, 6), begin(4, 6), begin(5, 5),
    begin(LARGEST, 1), begin(1, LARGEST), begin(LARGEST, LARGEST),
]


class Begin(unittest.TestCase):
    def test_every_size_that_is_right(self):
        for m in range(1, 5):
            for n in range(1, 6):
                self.assertEqual(ask(begin(m, n)), [[0]])

    def test_sizes_that_are_not_right(self):
        for bad in BAD_BEGINS:
            self.assertEqual(ask(bad), [[-22]], bad)

    def test_there_are_so_many_people_and_companies(self):
        for m in range(1, 5):
            for n in range(1, 6):
                start = begin(m, n)
                self.assertEqual(ask_last(start, part(m + n - 1, n - 1)), [0, 0, 1])
                self.assertEqual(ask_last(start, part(m + n, 0)), [-2])
                self.assertEqual(ask_last(start, strewn(n)), [-2])
                self.assertEqual(ask_last(start, real(m - 1, n - 1)), [0, 0, 1])
                self.assertEqual(ask_last(start, real(m, 0)), [-2])

    def test_nobody_holds_anything(self):
        for m, n in [(1, 1), (2, 3), (4, 5)]:
            values = [number for own in OWN[:n] for number in (own, 1)]
            expected = {
                2: [0, 0, 1], 3: [0, 1, 1], 4: [0, 0, 1], 5: [0, 1, 1], 6: [0, 0, 1], 7: [0], 8: [0], 9: [-33],
                10: [n] + [0, 1] * n, 11: [n] + values, 12: [0, 0, 1], 13: [0, 0, 1], 14: [0], 15: [m, n],
            }
            questions = all_questions(m, n)
            self.assertEqual({question[0] for question in questions}, set(expected))
            answered = ask_state([begin(m, n)], questions)
            self.assertEqual(answered, [expected[question[0]] for question in questions])


class BeforeBegin(unittest.TestCase):
    def test_every_other_call(self):
        self.assertEqual(ask(*OTHERS), [[-11]] * len(OTHERS))

    def test_ahead_of_every_other_refusal(self):
        self.assertEqual(ask(*WRONG_OTHERS), [[-11]] * len(WRONG_OTHERS))

    def test_behind_a_refused_begin(self):
        for bad in BAD_BEGINS:
            self.assertEqual(ask(bad, *OTHERS, bad), [[-22]] + [[-11]] * len(OTHERS) + [[-22]])

    def test_each_of_the_fifteen_is_among_them(self):
        self.assertEqual({call[0] for call in OTHERS}, set(range(1, 16)))

    def test_nothing_is_kept_of_what_was_refused(self):
        answered = ask(hold(0, 0, 1, 2), begin(5, 5), hold(0, 0, 1, 2), begin(1, 1), part(0, 0), strewn(0),
                       state())
        self.assertEqual(answered, [[-11], [-22], [-11], [0], [0, 0, 1], [0, 1, 1], [1, 1]])


class SecondBegin(unittest.TestCase):
    first = [begin(2, 3), hold(0, 0, 1, 3), hold(3, 0, 1, 3), hold(4, 1, 1, 1), hold(3, 2, 1, 1), hold(1, 0, 1, 9)]

    def test_refused_leaves_all_as_it_was(self):
        questions = all_questions(2, 3)
        before = ask_state(self.first, questions)
        for bad in BAD_BEGINS:
            self.assertEqual(ask_last(*self.first, bad), [-22])
            self.assertEqual(ask_state(self.first + [bad], questions), before)

    def test_answered_0_begins_anew(self):
        for m, n in [(2, 3), (1, 1), (4, 5), (3, 2)]:
            questions = all_questions(m, n)
            again = ask_state(self.first + [begin(m, n)], questions)
            self.assertEqual(again, ask_state([begin(m, n)], questions))

    def test_the_numbers_are_those_of_the_last_begin(self):
        answered = ask(begin(4, 5), begin(1, 2), part(2, 1), part(3, 1), strewn(2), real(1, 0), owned(1),
                       books([1] * 5), state())
        self.assertEqual(answered, [[0], [0], [0, 0, 1], [-2], [-2], [-2], [-2], [-22], [1, 2]])
        self.assertEqual(ask_last(begin(1, 1), begin(4, 5), hold(8, 4, 1, 1)), [0, 0, 1])


if __name__ == "__main__":
    unittest.main()
