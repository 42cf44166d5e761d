"""The parts of rules, even rows, clashes, and the longest rows."""

from anyspan.errors import NoNumber, NoPart
from anyspan.goings import end_keeps, longer_rows, places_ahead
from anyspan.rules import MOST_PLACES, is_whole, must_be_rules

MOST_BOTTOM = 10 ** 40
# Every span divides it, so that numbers by spans can be compared as whole numbers by it.
EVERY_SPAN = 840


def common_divisor(one, other):
    """The greatest common divisor of two whole numbers from 0 on, not both 0."""
    while other:
        one, other = other, one % other
    return one


def lowest_terms(top, bottom):
    """The fraction top by bottom, without a common divisor."""
    shared = common_divisor(top, bottom)
    return (top // shared, bottom // shared)


def is_part(thing):
    """Whether thing is a fraction from 0 to 1."""
    if not isinstance(thing, tuple) or len(thing) != 2:
        return False
    top, bottom = thing
    if not is_whole(top) or not is_whole(bottom):
        return False
    return 1 <= bottom <= MOST_BOTTOM and 0 <= top <= bottom and common_divisor(top, bottom) == 1


def must_be_part(thing):
    """Refuse what is no fraction from 0 to 1."""
    if not is_part(thing):
        raise NoPart("this is no fraction from 0 to 1")


def must_be_number(thing):
    """Refuse what is no number of places of a row."""
    if not is_whole(thing) or not 0 <= thing <= MOST_PLACES:
        raise NoNumber("this is no number of places")


def parts(rules):
    """The least and the greatest number that is in the parts of all rules, None where there is none."""
    must_be_rules(rules)
    low = max([least * EVERY_SPAN // span for span, least, most in rules])
    high = min([most * EVERY_SPAN // span for span, least, most in rules])
    if low > high:
        return None
    return (lowest_terms(low, EVERY_SPAN), lowest_terms(high, EVERY_SPAN))


def even_row(part, many):
    """The even row by a fraction, of so many places."""
    must_be_part(part)
    must_be_number(many)
    top, bottom = part
    # The fraction is at most 1, so from one place to the next the whole number grows by 1 or stays.
    return tuple([(at + 1) * top // bottom - at * top // bottom for at in range(many)])


def is_above(one, other):
    """Whether the one rule's least by its span is above the other one's most by its span."""
    return one[1] * other[0] > other[2] * one[0]


def clash(rules):
    """The first two rules that clash, None where none do."""
    must_be_rules(rules)
    # Rules rise, so their pairs come in order here.
    for one in rules:
        for other in rules:
            if is_above(one, other):
                return (one, other)
    return None


def longest(rules):
    """How many places the longest rows have that keep rules, None where there are rows of any length."""
    must_be_rules(rules)
    # The empty row keeps all rules, and every row goes on from it.
    return places_ahead(rules, ())


def longest_row(rules):
    """The first of the longest rows that keep rules, None where there are rows of any length."""
    many = longest(rules)
    if many is None:
        return None
    rows = [()]
    for place in range(many):
        rows = [row for row in longer_rows(rows) if end_keeps(rules, row)]
    return rows[0]
