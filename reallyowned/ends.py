"""Where each company comes to in the end: to people, to what is strewn, or lost.

A row tells where the whole of one company goes: a fraction for each holder, by the
holders' numbers, then what is strewn, then what is lost. Together they are always 1.
"""

from reallyowned.fraction import ONE, ZERO, is_above, minus, over, plus, times


def strewn_place(holdings):
    return holdings.people + holdings.companies


def lost_place(holdings):
    return strewn_place(holdings) + 1


def first_rows(holdings):
    """Of each company its row behind one step."""
    rows = []
    for company in range(holdings.companies):
        rows.append(holdings.parts[company] + [holdings.strewn(company), ZERO])
    return rows


def without_return(row, place):
    """The row of the company at that place, with nothing coming back to it.

    What comes back goes out again by the same row, without end: so the others share it
    in the ratio of what they have. If all comes back, there are no others, and it is lost.
    """
    back = row[place]
    if back == ONE:
        return [ZERO] * (len(row) - 1) + [ONE]
    leaving = minus(ONE, back)
    shared = [over(amount, leaving) for amount in row]
    shared[place] = ZERO
    return shared


def sent_on(row, place, onward):
    """The row, with what goes to that place going on by the row onward, which has nothing there."""
    amount = row[place]
    sent = [plus(stays, times(amount, share)) for stays, share in zip(row, onward)]
    sent[place] = ZERO
    return sent


def behind_all_steps(rows, first):
    """The rows with nothing left at the companies' places; company 0 has the place first."""
    companies = len(rows)
    for company in range(companies):
        place = first + company
        onward = without_return(rows[company], place)
        rows = [sent_on(row, place, onward) for row in rows]
        rows[company] = onward
    return rows


def final_rows(holdings):
    """Of each company its row behind all steps: nothing is left with companies."""
    return behind_all_steps(first_rows(holdings), holdings.people)


def really_owned(holdings, person, company):
    return final_rows(holdings)[company][person]


def owned_by(holdings, person):
    """Of each company what the person really owns."""
    return [row[person] for row in final_rows(holdings)]


def greatest_owner(holdings, company):
    """The person who really owns most of it, of like ones the first; then how much."""
    row = final_rows(holdings)[company]
    greatest = 0
    for person in range(holdings.people):
        if is_above(row[person], row[greatest]):
            greatest = person
    return (greatest, row[greatest])


def strewn_in_the_end(holdings, company):
    return final_rows(holdings)[company][strewn_place(holdings)]


def lost_by_company(holdings):
    """Of each company what is lost of it."""
    place = lost_place(holdings)
    return [row[place] for row in final_rows(holdings)]


def lost_of(holdings, company):
    return lost_by_company(holdings)[company]


def losing_companies(holdings):
    """The companies of which something is lost, rising."""
    return [company for company, amount in enumerate(lost_by_company(holdings)) if amount != ZERO]


def closed_companies(holdings):
    """The companies of which all is lost, rising."""
    return [company for company, amount in enumerate(lost_by_company(holdings)) if amount == ONE]
