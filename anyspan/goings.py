"""How a begun row goes on, and whether two lots of rules are alike."""

from anyspan.errors import NoRow
from anyspan.rules import must_be_row, must_be_rules, row_keeps, stretch_keeps


def must_be_begun(rules, row):
    """Refuse what is no rules, no row, or a row that breaks the rules."""
    must_be_rules(rules)
    must_be_row(row)
    if not row_keeps(rules, row):
        raise NoRow("this row breaks the rules")


def longest_span(rules):
    """The longest span of rules."""
    # Rules rise by their spans.
    return rules[-1][0]


def end_keeps(rules, row):
    """Whether the stretches at the end of row keep the rules."""
    length = len(row)
    return all([stretch_keeps(rule, row, length) for rule in rules if rule[0] <= length])


def longer_rows(rows):
    """Each row with one more place, in order where rows of one length are."""
    return [row + (place,) for row in rows for place in (0, 1)]


def end_of(rules, row):
    """As many places from the end of row as bear on how it can go on."""
    # A new place stands in one stretch with at most the longest span less one before it.
    many = longest_span(rules) - 1
    return row[max(0, len(row) - many):]


def followers(rules, end):
    """The ends that rows have which end so, with one more place."""
    return [end_of(rules, row) for row in longer_rows([end]) if end_keeps(rules, row)]


def ends_ahead(rules, end):
    """Every end that can be come to from this one, itself too, each with its followers."""
    ahead = {}
    left = [end]
    while left:
        here = left.pop()
        if here not in ahead:
            behind = followers(rules, here)
            ahead[here] = behind
            left.extend(behind)
    return ahead


def places_ahead(rules, end):
    """How many places rows that end so can go on at most, None where for ever."""
    # In each round, ahead holds just the ends that can go on by far places.
    ahead = ends_ahead(rules, end)
    far = 0
    while True:
        further = {here: ahead[here] for here in ahead if any([after in ahead for after in ahead[here]])}
        if end not in further:
            return far
        # Where no end drops out, each has a follower among them, so all go on for ever.
        if len(further) == len(ahead):
            return None
        ahead = further
        far += 1


def goes_on(rules, row):
    """How many places the begun row can go on at most, None where for ever."""
    must_be_begun(rules, row)
    return places_ahead(rules, end_of(rules, row))


def nexts(rules, row):
    """The places by which the begun row can go on next so that it can for ever."""
    must_be_begun(rules, row)
    kept = [longer for longer in longer_rows([row]) if end_keeps(rules, longer)]
    return [longer[-1] for longer in kept if places_ahead(rules, end_of(rules, longer)) is None]


def alike(one, other):
    """Whether the same rows, however long, keep both lots of rules."""
    return parted(one, other) is None


def parted(one, other):
    """The first of the shortest rows that keep just one of both lots of rules, None where there is none."""
    must_be_rules(one)
    must_be_rules(other)
    # Any stretch of a row that keeps rules keeps them as well. So where a row keeps one lot and breaks a rule of the
    # other one, the stretch that breaks it does so, too: no row longer than the longest span need be looked at.
    both = [()]
    for span in range(max(longest_span(one), longest_span(other))):
        longer = longer_rows(both)
        for row in longer:
            if end_keeps(one, row) != end_keeps(other, row):
                return row
        both = [row for row in longer if end_keeps(one, row)]
    return None
