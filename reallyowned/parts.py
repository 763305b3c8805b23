"""Answers a line of calls, handed in as one list of whole numbers."""

from reallyowned.ends import closed_companies, greatest_owner, losing_companies, lost_of, owned_by, really_owned
from reallyowned.ends import strewn_in_the_end
from reallyowned.fraction import ZERO, is_above, lowest, plus
from reallyowned.holdings import Holdings
from reallyowned.worth import book_values, worth_by_books, worth_by_real_parts

NO_SUCH = -2
NOT_BEGUN = -11
NOT_RIGHT = -22
MORE_THAN_ALL = -33
NONE_THERE = -33
NOT_TO_BE_TOLD = -33

MOST_PEOPLE = 4
MOST_COMPANIES = 5
MOST_LOWER = 100
MOST_OWN = 1000

BEGIN = 0

# By the number of the call: how many whole numbers it is handed, then how many rows.
SHAPES = (
    (2, 0),  # begin
    (4, 0),  # hold
    (2, 0),  # part
    (1, 0),  # strewn
    (2, 0),  # real
    (1, 0),  # realstrewn
    (1, 0),  # lost
    (0, 0),  # rings
    (0, 0),  # closed
    (1, 0),  # greatest
    (1, 0),  # owned
    (0, 1),  # books
    (1, 1),  # worth
    (1, 1),  # bookworth
    (1, 0),  # holders
    (0, 0),  # state
)


def told(fraction):
    return [0, fraction[0], fraction[1]]


def told_companies(companies):
    return [len(companies)] + companies


def told_for_each(fractions):
    told_numbers = [len(fractions)]
    for fraction in fractions:
        told_numbers.extend([fraction[0], fraction[1]])
    return told_numbers


def is_own_list(holdings, row):
    """Whether it tells for each company what that one has itself."""
    return len(row) == holdings.companies and all([0 <= amount <= MOST_OWN for amount in row])


def answer_begin(holdings, numbers, rows):
    people = numbers[0]
    companies = numbers[1]
    if not 1 <= people <= MOST_PEOPLE or not 1 <= companies <= MOST_COMPANIES:
        return [NOT_RIGHT]
    holdings.begin(people, companies)
    return [0]


def answer_hold(holdings, numbers, rows):
    holder = numbers[0]
    company = numbers[1]
    upper = numbers[2]
    lower = numbers[3]
    if not holdings.has_holder(holder) or not holdings.has_company(company):
        return [NO_SUCH]
    if not 1 <= lower <= MOST_LOWER or upper > lower:
        return [NOT_RIGHT]
    before = holdings.part(holder, company)
    wanted = lowest(upper, lower)
    # The part before is given up, so it is free again.
    if is_above(wanted, plus(holdings.strewn(company), before)):
        return [MORE_THAN_ALL]
    holdings.give(holder, company, wanted)
    return told(before)


def answer_part(holdings, numbers, rows):
    holder = numbers[0]
    company = numbers[1]
    if not holdings.has_holder(holder) or not holdings.has_company(company):
        return [NO_SUCH]
    return told(holdings.part(holder, company))


def answer_strewn(holdings, numbers, rows):
    company = numbers[0]
    if not holdings.has_company(company):
        return [NO_SUCH]
    return told(holdings.strewn(company))


def answer_real(holdings, numbers, rows):
    person = numbers[0]
    company = numbers[1]
    if not holdings.has_person(person) or not holdings.has_company(company):
        return [NO_SUCH]
    return told(really_owned(holdings, person, company))


def answer_realstrewn(holdings, numbers, rows):
    company = numbers[0]
    if not holdings.has_company(company):
        return [NO_SUCH]
    return told(strewn_in_the_end(holdings, company))


def answer_lost(holdings, numbers, rows):
    company = numbers[0]
    if not holdings.has_company(company):
        return [NO_SUCH]
    return told(lost_of(holdings, company))


def answer_rings(holdings, numbers, rows):
    return told_companies(losing_companies(holdings))


def answer_closed(holdings, numbers, rows):
    return told_companies(closed_companies(holdings))


def answer_greatest(holdings, numbers, rows):
    company = numbers[0]
    if not holdings.has_company(company):
        return [NO_SUCH]
    greatest = greatest_owner(holdings, company)
    person = greatest[0]
    amount = greatest[1]
    if amount == ZERO:
        return [NONE_THERE]
    return [person, amount[0], amount[1]]


def answer_owned(holdings, numbers, rows):
    person = numbers[0]
    if not holdings.has_person(person):
        return [NO_SUCH]
    return told_for_each(owned_by(holdings, person))


def answer_books(holdings, numbers, rows):
    own = rows[0]
    if not is_own_list(holdings, own):
        return [NOT_RIGHT]
    if closed_companies(holdings):
        return [NOT_TO_BE_TOLD]
    return told_for_each(book_values(holdings, own))


def answer_worth(holdings, numbers, rows):
    person = numbers[0]
    own = rows[0]
    if not holdings.has_person(person):
        return [NO_SUCH]
    if not is_own_list(holdings, own):
        return [NOT_RIGHT]
    return told(worth_by_real_parts(holdings, person, own))


def answer_bookworth(holdings, numbers, rows):
    person = numbers[0]
    own = rows[0]
    if not holdings.has_person(person):
        return [NO_SUCH]
    if not is_own_list(holdings, own):
        return [NOT_RIGHT]
    if closed_companies(holdings):
        return [NOT_TO_BE_TOLD]
    return told(worth_by_books(holdings, person, own))


def answer_holders(holdings, numbers, rows):
    company = numbers[0]
    if not holdings.has_company(company):
        return [NO_SUCH]
    holders = holdings.holders(company)
    told_numbers = [len(holders)]
    for holder in holders:
        part = holdings.part(holder, company)
        told_numbers.extend([holder, part[0], part[1]])
    return told_numbers


def answer_state(holdings, numbers, rows):
    return [holdings.people, holdings.companies]


# By the number of the call: what answers it.
ANSWERS = (
    answer_begin,
    answer_hold,
    answer_part,
    answer_strewn,
    answer_real,
    answer_realstrewn,
    answer_lost,
    answer_rings,
    answer_closed,
    answer_greatest,
    answer_owned,
    answer_books,
    answer_worth,
    answer_bookworth,
    answer_holders,
    answer_state,
)


def answer(holdings, number, numbers, rows):
    if number != BEGIN and not holdings.has_begun():
        return [NOT_BEGUN]
    return ANSWERS[number](holdings, numbers, rows)


def read_rows(calls, place, how_many):
    """So many rows from that place on, each with its length before it."""
    rows = []
    while len(rows) < how_many:
        start = place + 1
        place = start + calls[place]
        rows.append(calls[start:place])
    return rows


def read_calls(calls):
    """Of each call a tuple: its number, the list of its whole numbers, the list of its rows."""
    read = []
    place = 0
    while place < len(calls):
        number = calls[place]
        shape = SHAPES[number]
        start = place + 1
        place = start + shape[0]
        numbers = calls[start:place]
        rows = read_rows(calls, place, shape[1])
        for row in rows:
            place += 1 + len(row)
        read.append((number, numbers, rows))
    return read


def answers(calls):
    """For each call, in order: how many numbers are answered, then these."""
    holdings = Holdings()
    answered = []
    for call in read_calls(calls):
        numbers = answer(holdings, call[0], call[1], call[2])
        answered.append(len(numbers))
        answered.extend(numbers)
    return answered
