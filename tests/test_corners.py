"""Every corner that the document lists, with all calls that can show it."""

import unittest

from tests.asking import (
    as_fraction, as_fractions, ask_state, begin, books, bookworth, closed, greatest, hold, holders, lost,
    lowest_fraction, owned, part, real, realstrewn, rings, state, strewn, worth,
)


def text_of(fractions):
    return " ".join(str(one) for one in fractions)


def holders_text(answer):
    count, *rest = answer
    if len(rest) != 3 * count:
        raise ValueError(f"not so many holders: {answer}")
    triples = [rest[k:k + 3] for k in range(0, len(rest), 3)]
    return " ".join(f"{h}:{lowest_fraction(a, b)}" for h, a, b in triples)


def greatest_text(answer):
    if answer == [-33]:
        return "-33"
    p, a, b = answer
    return f"{p}:{lowest_fraction(a, b)}"


def companies_text(answer):
    count, *rest = answer
    if len(rest) != count:
        raise ValueError(f"not so many companies: {answer}")
    return " ".join(str(j) for j in rest)


class Corners(unittest.TestCase):
    maxDiff = None

    def shows(self, start, own, **expected):
        """All that can be asked behind the start; by person or company, several with ; between."""
        m, n = start[0][1:]
        people, companies = range(m), range(n)
        many = {
            "strewn": [strewn(j) for j in companies], "realstrewn": [realstrewn(j) for j in companies],
            "lost": [lost(j) for j in companies], "worth": [worth(p, own) for p in people],
        }
        shown = {name: text_of(as_fraction(one) for one in ask_state(start, calls)) for name, calls in many.items()}
        shown["holders"] = "; ".join(holders_text(one) for one in ask_state(start, [holders(j) for j in companies]))
        shown["owned"] = "; ".join(text_of(as_fractions(one)) for one in ask_state(start, [owned(p) for p in people]))
        shown["greatest"] = "; ".join(greatest_text(one) for one in ask_state(start, [greatest(j) for j in companies]))
        losing, shut, size = ask_state(start, [rings(), closed(), state()])
        shown["rings"] = companies_text(losing)
        shown["closed"] = companies_text(shut)
        by_books = ask_state(start, [books(own)] + [bookworth(p, own) for p in people])
        if shut != [0]:
            self.assertEqual(by_books, [[-33]] * (1 + m))
            shown["books"] = shown["bookworth"] = "-33"
        else:
            shown["books"] = text_of(as_fractions(by_books[0]))
            shown["bookworth"] = text_of(as_fraction(one) for one in by_books[1:])
        self.assertEqual(shown, expected)
        self.assertEqual(size, [m, n])
        self.same_one_by_one(start, m, n)

    def same_one_by_one(self, start, m, n):
        """part and real tell one by one what holders and owned tell together."""
        for p in range(m):
            ones = ask_state(start, [real(p, j) for j in range(n)])
            self.assertEqual([as_fraction(one) for one in ones], as_fractions(ask_state(start, [owned(p)])[0]))
        for j in range(n):
            ones = ask_state(start, [part(h, j) for h in range(m + n)])
            some = [number for h, one in enumerate(ones) if one[1] > 0 for number in [h] + one[1:]]
            self.assertEqual(ask_state(start, [holders(j)])[0], [len(some) // 3] + some)

    def test_nobody_holds_anything(self):
        self.shows([begin(2, 2)], [10, 20], strewn="1 1", holders="; ", owned="0 0; 0 0", realstrewn="1 1", lost="0 0",
                   greatest="-33; -33", rings="", closed="", books="10 20", worth="0 0", bookworth="0 0")

    def test_holds_itself_in_part(self):
        self.shows([begin(2, 1), hold(2, 0, 1, 2), hold(1, 0, 1, 3)], [12], strewn="1/6", holders="1:1/3 2:1/2",
                   owned="0; 2/3", realstrewn="1/3", lost="0", greatest="1:2/3", rings="", closed="", books="24",
                   worth="0 8", bookworth="0 8")

    def test_holds_itself_wholly(self):
        self.shows([begin(1, 2), hold(1, 0, 1, 1), hold(0, 1, 1, 2)], [10, 20], strewn="0 1/2", holders="1:1; 0:1/2",
                   owned="0 1/2", realstrewn="0 1/2", lost="1 0", greatest="-33; 0:1/2", rings="0", closed="0",
                   books="-33", worth="10", bookworth="-33")

    def test_two_that_hold_each_other_wholly(self):
        self.shows([begin(1, 3), hold(3, 1, 1, 1), hold(2, 2, 1, 1), hold(0, 0, 1, 1)], [10, 20, 30], strewn="0 0 0",
                   holders="0:1; 3:1; 2:1", owned="1 0 0", realstrewn="0 0 0", lost="0 1 1", greatest="0:1; -33; -33",
                   rings="1 2", closed="1 2", books="-33", worth="10", bookworth="-33")

    def test_a_ring_with_a_crack(self):
        ring = [begin(1, 2), hold(2, 0, 1, 1), hold(1, 1, 9, 10)]
        self.shows(ring, [10, 20], strewn="0 1/10", holders="2:1; 1:9/10", owned="0 0", realstrewn="1 1", lost="0 0",
                   greatest="-33; -33", rings="", closed="", books="280 300", worth="0", bookworth="0")
        self.shows(ring + [hold(0, 1, 1, 10)], [10, 20], strewn="0 0", holders="2:1; 0:1/10 1:9/10", owned="1 1",
                   realstrewn="0 0", lost="0 0", greatest="0:1; 0:1", rings="", closed="", books="280 300", worth="30",
                   bookworth="30")

    def test_held_by_one_that_is_closed(self):
        self.shows([begin(1, 2), hold(2, 1, 1, 1), hold(2, 0, 1, 3), hold(0, 0, 1, 2)], [12, 20], strewn="1/6 0",
                   holders="0:1/2 2:1/3; 2:1", owned="1/2 0", realstrewn="1/6 0", lost="1/3 1", greatest="0:1/2; -33",
                   rings="0 1", closed="1", books="-33", worth="6", bookworth="-33")
        self.shows([begin(1, 2), hold(2, 1, 1, 1), hold(2, 0, 1, 1)], [12, 20], strewn="0 0", holders="2:1; 2:1",
                   owned="0 0", realstrewn="0 0", lost="1 1", greatest="-33; -33", rings="0 1", closed="0 1",
                   books="-33", worth="0", bookworth="-33")

    def test_a_part_of_0(self):
        self.shows([begin(1, 2), hold(0, 0, 0, 100), hold(2, 0, 0, 1), hold(1, 1, 1, 1), hold(1, 1, 0, 3)], [10, 20],
                   strewn="1 1", holders="; ", owned="0 0", realstrewn="1 1", lost="0 0", greatest="-33; -33",
                   rings="", closed="", books="10 20", worth="0", bookworth="0")

    def test_a_part_of_0_opens_a_ring(self):
        ring = [begin(1, 2), hold(2, 0, 1, 1), hold(1, 1, 1, 1), hold(1, 1, 0, 7)]
        self.shows(ring, [10, 20], strewn="0 1", holders="2:1; ", owned="0 0", realstrewn="1 1", lost="0 0",
                   greatest="-33; -33", rings="", closed="", books="10 30", worth="0", bookworth="0")

    def test_all_of_it(self):
        self.shows([begin(2, 2), hold(1, 0, 100, 100), hold(2, 1, 7, 7)], [10, 20], strewn="0 0", holders="1:1; 2:1",
                   owned="0 0; 1 1", realstrewn="0 0", lost="0 0", greatest="1:1; 1:1", rings="", closed="",
                   books="30 20", worth="0 30", bookworth="0 30")

    def test_counted_more_than_once_by_books(self):
        # By books the 20 of company 1 stand in company 0, too: 70 in all, of 50 that are there.
        self.shows([begin(1, 2), hold(1, 1, 1, 1), hold(0, 0, 1, 1)], [30, 20], strewn="0 0", holders="0:1; 1:1",
                   owned="1 1", realstrewn="0 0", lost="0 0", greatest="0:1; 0:1", rings="", closed="",
                   books="50 20", worth="50", bookworth="50")
        # Round and round: 7 are there, 21 and 14 by books; the people are worth 7 in all.
        self.shows([begin(2, 2), hold(2, 1, 1, 1), hold(3, 0, 2, 3), hold(0, 0, 1, 4), hold(1, 0, 1, 12)], [7, 0],
                   strewn="0 0", holders="0:1/4 1:1/12 3:2/3; 2:1", owned="3/4 3/4; 1/4 1/4", realstrewn="0 0",
                   lost="0 0", greatest="0:3/4; 0:3/4", rings="", closed="", books="21 14", worth="21/4 7/4",
                   bookworth="21/4 7/4")


if __name__ == "__main__":
    unittest.main()
