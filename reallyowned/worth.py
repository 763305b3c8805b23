"""What companies are worth by books, and people by real parts and by books.

own is a list with a whole number for each company: what it has itself.
"""

from reallyowned.ends import behind_all_steps, owned_by
from reallyowned.fraction import times, total, whole


def book_row(holdings, company, own):
    """By books it is worth these parts of what the companies are worth, and the last number."""
    holder = holdings.people + company
    parts = [holdings.part(holder, held) for held in range(holdings.companies)]
    return parts + [whole(own[company])]


def book_values(holdings, own):
    """What each company is worth by books; no company may be closed.

    A step puts what one company is worth in its place in all rows, till the last number alone
    is left. Nothing comes back wholly on the way: only what is closed does that.
    """
    rows = [book_row(holdings, company, own) for company in range(holdings.companies)]
    return [row[holdings.companies] for row in behind_all_steps(rows, 0)]


def together(parts, values):
    """Of each value its part, all together."""
    return total([times(part, value) for part, value in zip(parts, values)])


def worth_by_real_parts(holdings, person, own):
    return together(owned_by(holdings, person), [whole(amount) for amount in own])


def worth_by_books(holdings, person, own):
    """What the person is worth by books; no company may be closed."""
    parts = [holdings.part(person, company) for company in range(holdings.companies)]
    return together(parts, book_values(holdings, own))
