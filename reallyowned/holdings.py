"""What is kept along a line of calls: the people, the companies, and who holds which part."""

from reallyowned.fraction import ONE, ZERO, minus, total


class Holdings:
    """Holders are numbered: first the people, then the companies. Without people it is not begun."""

    def __init__(self):
        self.people = 0
        self.companies = 0
        self.parts = []

    def begin(self, people, companies):
        self.people = people
        self.companies = companies
        self.parts = [[ZERO] * (people + companies) for company in range(companies)]

    def has_begun(self):
        return self.people > 0

    def has_person(self, person):
        return person < self.people

    def has_company(self, company):
        return company < self.companies

    def has_holder(self, holder):
        return holder < self.people + self.companies

    def part(self, holder, company):
        return self.parts[company][holder]

    def give(self, holder, company, part):
        self.parts[company][holder] = part

    def strewn(self, company):
        return minus(ONE, total(self.parts[company]))

    def holders(self, company):
        """The numbers of those who have some of it, rising."""
        return [holder for holder, part in enumerate(self.parts[company]) if part != ZERO]
