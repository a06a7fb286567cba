"""Plans, and surrounding plans."""

from callplans.errors import NoHole, TooLarge
from callplans.forms import HOLE, MARK, services_of, size_of, text_of
from callplans.reading import Reader

MOST_CALLS = 8


class Plan:
    """A plan. It never changes. Plans are made by Plan.parse and plug."""

    def __init__(self, forms):
        self.forms = forms

    @classmethod
    def parse(cls, text):
        """Returns the plan of a text."""
        return cls(Reader(text).read_all())

    def __str__(self):
        return str(text_of(self.forms))

    def __eq__(self, other):
        return isinstance(other, Plan) and self.forms == other.forms

    def calls(self):
        """Returns the services of the calls, in order."""
        if self.size()[0] > MOST_CALLS:
            raise TooLarge("the plan has too many calls")
        return services_of(self.forms)

    def size(self):
        """Returns the numbers of calls, withins and forms of the written-out plan."""
        return size_of(self.forms)


def plug(surrounding, plan):
    """Returns the surrounding plan with the plan in the place of its hole."""
    forms = surrounding.forms
    if forms.count(HOLE) != 1 or MARK in forms:
        raise NoHole("a surrounding plan has exactly one hole and no mark")
    place = forms.index(HOLE)
    return Plan(forms[:place] + plan.forms + forms[place + 1:])
