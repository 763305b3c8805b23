"""Where each company comes to in the end: to people, to what is strewn, or lost.

A row tells where the whole of one company goes: a fraction for each holder, by the
holders' numbers, then what is strewn, then what is lost. Together they are always 1.
"""

from reallyowned.fraction import ONE, ZERO, minus, over, plus, times


def strewn_place(holdings):
    return holdings.people + holdings.companies


def lost_place(holdings):
    return strewn_place(holdings) + 1


def first_rows(holdings):
    """Of each company its row behind one step."""
    rows = []
    for company in range(holdings.companies):
        rows.append(holdings.parts[company] + [holdings.strewn(company), ZERO])
    return rows


def without_return(row, place):
    """The row of the company at that place, with nothing coming back to it.

    What comes back goes out again by the same row, without end: so the others share it
    in the ratio of what they have. If all comes back, there are no others, and it is lost.
    """
    back = row[place]
    if back == ONE:
        return [ZERO] * (len(row) - 1) + [ONE]
    leaving = minus(ONE, back)
    shared = [over(amount, leaving) for amount in row]
    shared[place] = ZERO
    return shared


def sent_on(row, place, onward):
    """The row, with what goes to that place going on by the row onward, which has nothing there."""
    amount = row[place]
    sent = [plus(stays, times(amount, share)) for stays, share in zip(row, onward)]
    sent[place] = ZERO
    return sent


def final_rows(holdings):
    """Of each company its row behind all steps: nothing is left with companies."""
    rows = first_rows(holdings)
    for company in range(holdings.companies):
        place = holdings.people + company
        onward = without_return(rows[company], place)
        rows = [sent_on(row, place, onward) for row in rows]
        rows[company] = onward
    return rows


def really_owned(holdings, person, company):
    return final_rows(holdings)[company][person]


def strewn_in_the_end(holdings, company):
    return final_rows(holdings)[company][strewn_place(holdings)]


def lost_of(holdings, company):
    return final_rows(holdings)[company][lost_place(holdings)]


def losing_companies(holdings):
    """The companies of which something is lost, rising."""
    rows = final_rows(holdings)
    place = lost_place(holdings)
    return [company for company in range(holdings.companies) if rows[company][place] != ZERO]
