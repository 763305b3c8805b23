"""Lines of all sixteen calls, against the document's words told once more in another way."""

import unittest
from fractions import Fraction

from tests.asking import (
    LARGEST, Numbers, as_numbers, ask, begin, books, bookworth, closed, greatest, hold, holders, lost, owned, part,
    real, realstrewn, rings, state, strewn, worth,
)


def solved(rows):
    """The numbers by which all rows (what is before each, then what comes out) are so; None if not just one."""
    size = len(rows)
    rows = [list(row) for row in rows]
    for place in range(size):
        usable = [k for k in range(size - 1, place - 1, -1) if rows[k][place] != 0]
        if not usable:
            return None
        rows[place], rows[usable[0]] = rows[usable[0]], rows[place]
        rows[place] = [x / rows[place][place] for x in rows[place]]
        for k in range(size):
            if k != place:
                rows[k] = [x - rows[k][place] * y for x, y in zip(rows[k], rows[place])]
    return [row[size] for row in rows]


class Model:
    def __init__(self):
        self.m = 0
        self.n = 0
        self.has = {}

    def held(self, h, j):
        return self.has.get((h, j), Fraction(0))

    def between(self, k, j):
        return self.held(self.m + k, j)

    def left(self, j):
        return 1 - sum(self.held(h, j) for h in range(self.m + self.n))

    def closed_ones(self):
        """The most companies that are wholly held by companies among them."""
        among = list(range(self.n))
        for turn in range(self.n):
            among = [j for j in among if sum(self.between(k, j) for k in among) == 1]
        return among

    def in_the_end(self, first):
        """What comes to one place of each company, of which first tells what comes there in one step."""
        shut = self.closed_ones()
        rows = []
        for j in range(self.n):
            row = [Fraction(j == k) for k in range(self.n)] + [Fraction(0)]
            if j not in shut:
                row = [x - y for x, y in zip(row, [self.between(k, j) for k in range(self.n)] + [-first[j]])]
            rows.append(row)
        return solved(rows)

    def owned_ones(self, p):
        return self.in_the_end([self.held(p, j) for j in range(self.n)])

    def strewn_ones(self):
        return self.in_the_end([self.left(j) for j in range(self.n)])

    def lost_ones(self):
        shut = self.closed_ones()
        into = self.in_the_end([sum(self.between(k, j) for k in shut) for j in range(self.n)])
        return [Fraction(1) if j in shut else into[j] for j in range(self.n)]

    def values(self, own):
        rows = []
        for i in range(self.n):
            rows.append([(i == j) - self.between(i, j) for j in range(self.n)] + [Fraction(own[i])])
        return solved(rows)

    def refusal(self, number, given, own):
        j = {1: 1, 2: 1, 3: 0, 4: 1, 5: 0, 6: 0, 9: 0, 14: 0}.get(number)
        if j is not None and given[j] >= self.n:
            return -2
        if number in (1, 2) and given[0] >= self.m + self.n:
            return -2
        if number in (4, 10, 12, 13) and given[0] >= self.m:
            return -2
        if number in (11, 12, 13) and (len(own) != self.n or max(own) > 1000):
            return -22
        if number in (11, 13) and self.values(own) is None:
            return -33
        return None

    def answer(self, call):
        number, *given = call
        own = given[1:] if number == 11 else given[2:]
        if number == 0:
            return self.begin(*given)
        if self.m == 0:
            return [-11]
        refusal = self.refusal(number, given, own)
        if refusal is not None:
            return [refusal]
        names = ["", "hold", "part", "strewn", "real", "realstrewn", "lost", "rings", "closed", "greatest", "owned",
                 "books", "worth", "bookworth", "holders", "state"]
        if number in (11, 12, 13):
            given = given[:number != 11] + [own]
        return getattr(self, names[number])(*given)

    def begin(self, m, n):
        if m not in (1, 2, 3, 4) or n not in (1, 2, 3, 4, 5):
            return [-22]
        self.__init__()
        self.m = m
        self.n = n
        return [0]

    def hold(self, h, j, a, b):
        if b < 1 or b > 100 or a > b:
            return [-22]
        before = self.held(h, j)
        self.has[(h, j)] = Fraction(a, b)
        if self.left(j) < 0:
            self.has[(h, j)] = before
            return [-33]
        return [0] + as_numbers(before)

    def part(self, h, j):
        return [0] + as_numbers(self.held(h, j))

    def strewn(self, j):
        return [0] + as_numbers(self.left(j))

    def real(self, p, j):
        return [0] + as_numbers(self.owned_ones(p)[j])

    def realstrewn(self, j):
        return [0] + as_numbers(self.strewn_ones()[j])

    def lost(self, j):
        return [0] + as_numbers(self.lost_ones()[j])

    def rings(self):
        lossy = [j for j, x in enumerate(self.lost_ones()) if x > 0]
        return [len(lossy)] + lossy

    def closed(self):
        return [len(self.closed_ones())] + self.closed_ones()

    def greatest(self, j):
        amounts = [self.owned_ones(p)[j] for p in range(self.m)]
        if max(amounts) == 0:
            return [-33]
        return [amounts.index(max(amounts))] + as_numbers(max(amounts))

    def owned(self, p):
        return [self.n] + [number for x in self.owned_ones(p) for number in as_numbers(x)]

    def books(self, own):
        return [self.n] + [number for x in self.values(own) for number in as_numbers(x)]

    def worth(self, p, own):
        return [0] + as_numbers(sum(x * has for x, has in zip(self.owned_ones(p), own)))

    def bookworth(self, p, own):
        return [0] + as_numbers(sum(self.held(p, j) * x for j, x in enumerate(self.values(own))))

    def holders(self, j):
        some = [h for h in range(self.m + self.n) if self.held(h, j) > 0]
        return [len(some)] + [number for h in some for number in [h] + as_numbers(self.held(h, j))]

    def state(self):
        return [self.m, self.n]


class MixedCalls:
    """Calls that are mostly right, for m people and n companies."""

    def __init__(self, numbers):
        self.numbers = numbers
        self.m = 1 + numbers.below(4)
        self.n = 1 + numbers.below(5)

    def number_below(self, end):
        if self.numbers.below(14):
            return self.numbers.below(end)
        return self.numbers.one_of([end, end + 1, LARGEST])

    def own(self):
        size = self.n if self.numbers.below(10) else self.numbers.one_of([0, self.n - 1, self.n + 1, 255])
        own = [self.numbers.one_of([0, 1, 7, 10, 100, 999, 1000]) for k in range(size)]
        if own and not self.numbers.below(10):
            own[self.numbers.below(size)] = self.numbers.one_of([1001, LARGEST])
        return own

    def hold(self):
        # Companies are drawn more often than people, so that rings close.
        h = self.m + self.number_below(self.n) if self.numbers.below(4) else self.number_below(self.m)
        b = self.numbers.one_of([1, 1, 1, 2, 2, 3, 6, 10, 99, 100])
        a = self.numbers.one_of([b, b, b // 2, self.numbers.below(b + 1)])
        if not self.numbers.below(14):
            a, b = self.numbers.one_of([(b + 1, b), (1, 0), (0, 0), (1, 101), (LARGEST, LARGEST)])
        return hold(h, self.number_below(self.n), a, b)

    def begin(self):
        if self.numbers.below(8):
            return begin(self.m, self.n)
        return self.numbers.one_of([begin(0, 1), begin(5, 1), begin(1, 0), begin(1, 6), begin(LARGEST, LARGEST)])

    def one(self):
        p = self.number_below(self.m)
        j = self.number_below(self.n)
        h = self.number_below(self.m + self.n)
        kind = self.numbers.below(40)
        if kind < 20:
            return self.hold()
        return [
            part(h, j), strewn(j), real(p, j), realstrewn(j), lost(j), rings(), closed(), greatest(j), owned(p),
            books(self.own()), worth(p, self.own()), bookworth(p, self.own()), holders(j), state(), rings(),
            greatest(j), books(self.own()), worth(p, self.own()), bookworth(p, self.own()),
            state() if self.numbers.below(6) else self.begin(),
        ][kind - 20]


class LinesLikeTheModel(unittest.TestCase):
    def test_many_lines_of_40_calls(self):
        numbers = Numbers(1)
        seen = {}
        for turn in range(500):
            mixed = MixedCalls(numbers)
            calls = [mixed.begin()] + [mixed.one() for step in range(39)]
            model = Model()
            expected = [model.answer(call) for call in calls]
            self.assertEqual(ask(*calls), expected, calls)
            for call, one in zip(calls, expected):
                seen[(call[0], min(one[0], 0))] = True
        self.assertEqual(sorted(seen), sorted(self.all_that_may_be_answered()))

    def all_that_may_be_answered(self):
        refusals = {
            0: [-22], 1: [-2, -22, -33, -11], 2: [-2, -11], 3: [-2, -11], 4: [-2, -11], 5: [-2, -11], 6: [-2, -11],
            7: [-11], 8: [-11], 9: [-2, -33, -11], 10: [-2, -11], 11: [-22, -33, -11], 12: [-2, -22, -11],
            13: [-2, -22, -33, -11], 14: [-2, -11], 15: [-11],
        }
        return [(number, one) for number, ones in refusals.items() for one in ones + [0]]


if __name__ == "__main__":
    unittest.main()
