"""Rules, rows, and whether a row keeps rules."""

from anyspan.errors import NoRow, NoRules

MOST_SPAN = 8
MOST_RULES = 5
MOST_PLACES = 120


def is_whole(thing):
    """Whether thing is a whole number."""
    # Python counts True and False among its integers, the document does not.
    return isinstance(thing, int) and not isinstance(thing, bool)


def is_rule(thing):
    """Whether thing is a rule (span, least, most)."""
    if not isinstance(thing, tuple) or len(thing) != 3:
        return False
    if not all([is_whole(number) for number in thing]):
        return False
    span, least, most = thing
    return 1 <= span <= MOST_SPAN and 0 <= least <= most <= span


def are_rules(thing):
    """Whether thing is rules: a rising tuple of rules, spans unlike."""
    if not isinstance(thing, tuple) or not 1 <= len(thing) <= MOST_RULES:
        return False
    if not all([is_rule(part) for part in thing]):
        return False
    # The span comes first in a rule, so rules of unlike spans rise just where their spans do.
    spans = [rule[0] for rule in thing]
    return all([one < other for one, other in zip(spans, spans[1:])])


def is_place(thing):
    """Whether thing is a place, 1 or 0."""
    return is_whole(thing) and 0 <= thing <= 1


def is_row(thing):
    """Whether thing is a row: a tuple of at most so many places."""
    if not isinstance(thing, tuple) or len(thing) > MOST_PLACES:
        return False
    return all([is_place(part) for part in thing])


def must_be_rules(thing):
    """Refuse what is no rules."""
    if not are_rules(thing):
        raise NoRules("these are no rules")


def must_be_row(thing):
    """Refuse what is no row."""
    if not is_row(thing):
        raise NoRow("this is no row")


def stretch_keeps(rule, row, end):
    """Whether the stretch of row that ends at the seam end, as long as the rule's span, keeps the rule."""
    span, least, most = rule
    return least <= sum(row[end - span:end]) <= most


def row_keeps(rules, row):
    """Whether row, of any length, keeps all rules; both are taken for what they should be."""
    for rule in rules:
        for end in range(rule[0], len(row) + 1):
            if not stretch_keeps(rule, row, end):
                return False
    return True


def keeps(rules, row):
    """Whether row keeps all rules."""
    must_be_rules(rules)
    must_be_row(row)
    return row_keeps(rules, row)
