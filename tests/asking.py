"""What the tests share: the calls by their names, asking a line, and states to ask about."""

import unittest
from fractions import Fraction

from reallyowned.parts import answers

LARGEST = 4294967295
MOST_CALLS = 40

# What each of five companies has itself, where a test has no wish of its own.
OWN = [1000, 0, 7, 333, 1]


def begin(m, n):
    return [0, m, n]


def hold(h, j, a, b):
    return [1, h, j, a, b]


def part(h, j):
    return [2, h, j]


def strewn(j):
    return [3, j]


def real(p, j):
    return [4, p, j]


def realstrewn(j):
    return [5, j]


def lost(j):
    return [6, j]


def rings():
    return [7]


def closed():
    return [8]


def greatest(j):
    return [9, j]


def owned(p):
    return [10, p]


def books(own):
    return [11, len(own)] + own


def worth(p, own):
    return [12, p, len(own)] + own


def bookworth(p, own):
    return [13, p, len(own)] + own


def holders(j):
    return [14, j]


def state():
    return [15]


def line_of(calls):
    """The list that is handed in for these calls."""
    if not 1 <= len(calls) <= MOST_CALLS:
        raise ValueError("a line has 1 to 40 calls")
    return [number for call in calls for number in call]


def split(answered):
    """The answers one by one, from the list that is given back."""
    lists = []
    place = 0
    while place < len(answered):
        end = place + 1 + answered[place]
        if answered[place] < 1 or end > len(answered):
            raise ValueError("a count is not that of an answer")
        lists.append(answered[place + 1:end])
        place = end
    return lists


def ask(*calls):
    """What is answered of each of these calls, on one new object."""
    answered = split(answers(line_of(calls)))
    if len(answered) != len(calls):
        raise ValueError("not one answer for each call")
    return answered


def ask_last(*calls):
    return ask(*calls)[-1]


def ask_state(first, questions):
    """What is answered of the questions behind the first calls, in as many lines as are needed."""
    room = MOST_CALLS - len(first)
    answered = []
    for start in range(0, len(questions), room):
        answered += ask(*first, *questions[start:start + room])[len(first):]
    return answered


def all_questions(m, n):
    """Every good call that changes nothing, for m people and n companies."""
    questions = [part(h, j) for h in range(m + n) for j in range(n)]
    questions += [real(p, j) for p in range(m) for j in range(n)]
    for j in range(n):
        questions += [strewn(j), realstrewn(j), lost(j), greatest(j), holders(j)]
    for p in range(m):
        questions += [owned(p), worth(p, OWN[:n]), bookworth(p, OWN[:n])]
    return questions + [rings(), closed(), books(OWN[:n]), state()]


def as_fraction(answer):
    """The fraction of an answer; it must stand in its lowest form."""
    zero, upper, lower = answer
    if zero != 0:
        raise ValueError(f"no answer of 0 and a fraction: {answer}")
    return lowest_fraction(upper, lower)


def as_fractions(answer):
    """The fractions of an answer that tells how many, then a fraction for each."""
    if len(answer) != 1 + 2 * answer[0]:
        raise ValueError(f"not so many fractions: {answer}")
    return [lowest_fraction(upper, lower) for upper, lower in zip(answer[1::2], answer[2::2])]


def lowest_fraction(upper, lower):
    value = Fraction(upper, lower)
    if (value.numerator, value.denominator) != (upper, lower):
        raise ValueError(f"not in its lowest form: {upper} by {lower}")
    return value


def as_numbers(value):
    """The two numbers by which a fraction is told."""
    return [value.numerator, value.denominator]


class Refusing(unittest.TestCase):
    def refuses(self, number, start, *wrong):
        """Each of them is answered so behind the start, and changes nothing."""
        questions = all_questions(*start[0][1:])
        before = ask_state(start, questions)
        for one in wrong:
            self.assertEqual(ask_last(*start, one), [number], one)
            # The calls behind show, too, that it was passed over whole.
            self.assertEqual(ask_state(start + [one], questions), before, one)


class Numbers:
    """Numbers that look mixed, the same ones each time the tests run."""

    def __init__(self, seed):
        self.seed = seed

    def below(self, end):
        self.seed = (self.seed * 6364136223846793005 + 1442695040888963407) % 2 ** 64
        return (self.seed >> 33) % end

    def one_of(self, choices):
        return choices[self.below(len(choices))]


def mixed_state(numbers, m, n):
    """A dict of parts {(h, j): Fraction} for m people and n companies, rings likely among them."""
    parts = {}
    for j in range(n):
        free = Fraction(1)
        for turn in range(1 + numbers.below(3)):
            # Companies are drawn more often than people, so that rings close.
            h = m + numbers.below(n) if numbers.below(4) else numbers.below(m)
            lower = numbers.one_of([1, 2, 3, 4, 5, 7, 12, 97, 99, 100])
            wanted = Fraction(numbers.below(lower + 1), lower)
            if free.denominator <= 100 and numbers.below(2):
                wanted = free
            if (h, j) not in parts and wanted <= free:
                parts[(h, j)] = wanted
                free -= wanted
    return parts


def state_calls(m, n, parts):
    """The calls that lead to such a state."""
    return [begin(m, n)] + [hold(h, j, x.numerator, x.denominator) for (h, j), x in parts.items()]
