"""Told rows, their first filling, and how many fillings there are."""

from anyspan.errors import NoTold
from anyspan.goings import end_keeps, end_of, ends_ahead, longer_rows
from anyspan.rules import MOST_PLACES, is_place, must_be_rules


def is_told(thing):
    """Whether thing is a told row: a tuple of at most so many places and None."""
    if not isinstance(thing, tuple) or len(thing) > MOST_PLACES:
        return False
    return all([part is None or is_place(part) for part in thing])


def must_be_told(thing):
    """Refuse what is no told row."""
    if not is_told(thing):
        raise NoTold("this is no told row")


def places_behind(rules):
    """Every end that a row can come to, each with the places that can follow, and the ends that rows have then."""
    return {
        end: [(row[-1], end_of(rules, row)) for row in longer_rows([end]) if end_keeps(rules, row)]
        for end in ends_ahead(rules, ())
    }


def fitting(behind, part):
    """Those of the places behind an end that can stand where part is told, each with its end."""
    return [(place, end) for place, end in behind if part is None or part == place]


def ways_from_seams(behind, told):
    """For each seam, from 0 on, in how many ways each end can go on from there to the last seam."""
    # The ways from a seam are counted from those of the next one, so this begins behind the last place.
    ways = {end: 1 for end in behind}
    from_seams = [ways]
    for part in reversed(told):
        after = from_seams[-1]
        ways = {end: sum([after[later] for place, later in fitting(behind[end], part)]) for end in behind}
        from_seams.append(ways)
    return from_seams[::-1]


def filling(rules, told):
    """The first filling of a told row by rules, None where there is none."""
    must_be_rules(rules)
    must_be_told(told)
    behind = places_behind(rules)
    from_seams = ways_from_seams(behind, told)
    row = ()
    end = ()
    if from_seams[0][end] == 0:
        return None
    for part, after in zip(told, from_seams[1:]):
        # One place at least can be filled in, as the end before it has ways to go on.
        good = [(place, later) for place, later in fitting(behind[end], part) if after[later] > 0]
        place, end = good[0]
        row = row + (place,)
    return row


def how_many(rules, told):
    """How many fillings of a told row by rules there are."""
    must_be_rules(rules)
    must_be_told(told)
    return ways_from_seams(places_behind(rules), told)[0][()]
