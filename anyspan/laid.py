"""A row that is laid place by place."""

from anyspan.errors import Breaks, Full, NoneLeft, NoPlace
from anyspan.goings import end_of, places_ahead
from anyspan.rules import MOST_PLACES, is_place, must_be_rules, stretch_keeps


def first_broken(rules, row):
    """The first rule that the stretch at the end of row breaks, None where all are kept there."""
    length = len(row)
    for rule in rules:
        if rule[0] <= length and not stretch_keeps(rule, row, length):
            return rule
    return None


class Laid:
    """A row with its rules, without places at first."""

    def __init__(self, rules):
        must_be_rules(rules)
        self.rules = rules
        self.places = ()

    def lay(self, place):
        """Lay one place behind those that lie."""
        if not is_place(place):
            raise NoPlace("this is no place")
        longer = self.places + (place,)
        broken = first_broken(self.rules, longer)
        if broken is not None:
            raise Breaks(broken)
        if len(longer) > MOST_PLACES:
            raise Full("no further place can lie")
        self.places = longer

    def take(self):
        """Take the last place away."""
        if not self.places:
            raise NoneLeft("no place lies")
        self.places = self.places[:-1]

    def row(self):
        """The row that lies."""
        return self.places

    def marked(self):
        """How many places are marked."""
        return sum(self.places)

    def goes_on(self):
        """How many places the row can go on at most, None where for ever."""
        return places_ahead(self.rules, end_of(self.rules, self.places))

    def can_be_laid(self):
        """The places that would break no rule, however many lie."""
        return [place for place in (0, 1) if first_broken(self.rules, self.places + (place,)) is None]

    def __len__(self):
        return len(self.places)

    def __eq__(self, other):
        return isinstance(other, Laid) and self.rules == other.rules and self.places == other.places
