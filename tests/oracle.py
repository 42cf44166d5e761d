"""What the tests hold the program against: the document's words, by plain counting over all rows."""

from fractions import Fraction
from functools import lru_cache
from itertools import combinations, product

DEEP = ()
for depth in range(9):
    DEEP = (DEEP,)

# Things that are neither rules nor rows, nor told rows.
NONSENSE = [
    None, True, False, 0, 1, 7, -1, 10 ** 40 - 1, -(10 ** 40 - 1),
    "", " ", "rules", "~" * 200, "(1, 0, 1)",
    [], [0], [0, 1], [[]], [None], [(1, 0, 1)], [[1, 0, 1]], [0] * 400,
    (True,), (False,), (0, True), (1, False, 0), (2,), (-1,), (0, 1, 2), (10 ** 39,), ("0",), ("",), ((),), ([],),
    ([0, 1],), ((0,), (1,)), (0,) * 121, (1,) * 400, ("a",) * 400, DEEP, ((((1, 0, 1),),),), [DEEP],
]

# Tuples that look like rules but are none.
NO_RULES = [
    # span, least and most beyond their limits
    ((0, 0, 0),), ((-1, 0, 0),), ((9, 0, 9),), ((9, 0, 0),), ((10 ** 39, 0, 1),),
    ((1, -1, 0),), ((3, -1, 2),), ((3, 2, 1),), ((1, 1, 0),), ((3, 0, 4),), ((1, 0, 2),), ((8, 0, 9),), ((3, 4, 4),),
    ((8, 10 ** 39, 10 ** 39),), ((2, -(10 ** 39), 1),),
    # too few, too many
    (), ((1, 0, 1), (2, 0, 2), (3, 0, 3), (4, 0, 4), (5, 0, 5), (6, 0, 6)), tuple((k, 0, k) for k in range(1, 9)),
    # spans alike, not rising
    ((2, 0, 1), (2, 0, 1)), ((2, 0, 1), (2, 0, 2)), ((2, 0, 1), (2, 1, 1)), ((1, 0, 1), (3, 0, 2), (3, 1, 2)),
    ((2, 0, 1), (1, 0, 1)), ((1, 0, 1), (3, 0, 1), (2, 0, 1)), ((3, 0, 1), (1, 0, 1), (2, 0, 1)),
    # lists where tuples are due
    [(1, 0, 1)], ([1, 0, 1],), ((1, 0, 1), [2, 0, 2]), [[1, 0, 1], [2, 0, 2]],
    # truths where whole numbers are due
    ((True, 0, 1),), ((1, False, 1),), ((1, 0, True),), ((1, 0, 1), (2, True, 2)), ((2, False, True),),
    # other things and lengths
    (1, 0, 1), ((1, 0),), ((1,),), ((),), ((1, 0, 1, 1),), ((1, 0, None),), ((1, "0", 1),), (("1", "0", "1"),),
    ("101",), (None,), ((1, 0, 1), None), ((1, 0, 1), 2), ((1, 0, 1), "text"), (((1, 0, 1),),), ((1, (0,), 1),),
    ((None, None, None),), ((1, 0, [1]),),
]

# Tuples and lists that look like rows but are none.
NO_ROWS = [
    [], [0], [1, 0], (0,) * 121, (1,) * 400, (2,), (0, 1, -1), (0, 2, 1), (1, 0, 10 ** 39), (True,), (False,),
    (0, 1, True), (False, 0, 1), (None,), (0, None), ("1",), ("0", "1"), "", "01", ((0,),), ((),), ([0],), None, True,
    False, 0, 1,
]

# Tuples and lists that look like told rows but are none.
NO_TOLD = [
    [], [None], [0, None, 1], (None,) * 121, (0,) * 121, (None,) * 400, (2,), (-1,), (None, 2), (0, 1, -1),
    (None, 10 ** 39), (True,), (False,), (None, True), (0, False, None), ("0",), ("None",), ("",), (None, ""), "",
    "01", " ", ((None,),), ((),), ([None],), (None, (0,)), (0, [1]), None, True, False, 0, 1,
]

# Things that are no fractions from 0 to 1.
NO_PARTS = [
    # with a common divisor
    (2, 4), (0, 2), (0, 10 ** 40), (3, 3), (2, 2), (5, 10), (10 ** 39, 10 ** 40), (10 ** 40, 10 ** 40),
    (6, 9), (3 * 7919, 5 * 7919),
    # the bottom beyond its limits
    (0, 0), (1, 0), (0, -1), (-1, -2), (-1, -1), (1, 10 ** 40 + 1), (10 ** 40, 10 ** 40 + 1), (10 ** 39, 10 ** 41 + 1),
    (1, 10 ** 41),
    # above 1, below 0
    (2, 1), (3, 2), (10 ** 40, 10 ** 40 - 1), (10 ** 40, 1), (-1, 1), (-1, 2), (1, -2), (-1, 10 ** 40),
    # lists, truths, other things and lengths
    [0, 1], [1, 2], [], (), (0,), (1,), (1, 2, 3), (0, 1, 1), ((0, 1),), ((0, 1), (1, 1)), (True, 1), (1, True),
    (False, 1), (0, True), (True, 2), (True, True), (False, True), (None, 1), (0, None), ("0", 1), (1, "2"), ("1", "2"),
    "01", "1/2", "", 0, 1, True, False, None, -1, 10 ** 39, ([0], 1), (0, [1]), ((0,), (1,)),
]

# Things that are no numbers from 0 to 120.
NO_NUMBERS = [
    -1, 121, 122, -120, 10 ** 39, -(10 ** 39), True, False, None, "", "0", "5", "text", [], [5], (), (5,), (0, 1), [[]],
    DEEP,
]


def rules_of_spans(spans):
    """All rules that have just these spans."""
    choices = [[(span, low, high) for high in range(span + 1) for low in range(high + 1)] for span in spans]
    return list(product(*choices))


def rules_up_to(span, many):
    """All rules of at most so many rules, of spans up to this one."""
    return [
        rules
        for count in range(1, many + 1)
        for spans in combinations(range(1, span + 1), count)
        for rules in rules_of_spans(spans)
    ]


def does_keep(rules, row):
    """Whether row keeps rules, counted stretch by stretch."""
    for span, least, most in rules:
        for start in range(len(row)):
            stretch = row[start:start + span]
            if len(stretch) == span and (stretch.count(1) < least or stretch.count(1) > most):
                return False
    return True


def rows_of(length):
    """All rows of this length, in order."""
    return list(product((0, 1), repeat=length))


def kept_rows(rules, length):
    """All rows of this length that keep rules."""
    return [row for row in rows_of(length) if does_keep(rules, row)]


@lru_cache(maxsize=None)
def how_far(rules, row):
    """How many places row can go on, None where for ever: all ways to go on at once, place by place.

    Only the last 7 places bear on what may follow. Where the same ends come again, they come for ever.
    """
    tails = frozenset([row[-7:]])
    before = []
    while tails and tails not in before:
        before.append(tails)
        longer = [tail + (place,) for tail in tails for place in (0, 1)]
        tails = frozenset(row[-7:] for row in longer if does_keep(rules, row))
    return None if tails else len(before) - 1


def which_next(rules, row):
    """The places behind which row goes on for ever."""
    return [
        place for place in (0, 1)
        if does_keep(rules, row + (place,)) and how_far(rules, row + (place,)) is None
    ]


def first_apart(one, other, most):
    """The first of the shortest rows of up to so many places that keep just one of both."""
    for length in range(most + 1):
        for row in rows_of(length):
            if does_keep(one, row) != does_keep(other, row):
                return row
    return None


def exchanged(rules):
    """Rules for rows with marks and bare places exchanged."""
    return tuple((span, span - most, span - least) for span, least, most in rules)


def flipped(row):
    """Row with marks and bare places exchanged."""
    return tuple(1 - place for place in row)


def share(number, span):
    """This number by this span."""
    return Fraction(number, span)


def told_as(number):
    """A fraction as the document tells it."""
    return (number.numerator, number.denominator)


def common_parts(rules):
    """The least and the greatest number in the parts of all rules."""
    low = max(share(least, span) for span, least, most in rules)
    high = min(share(most, span) for span, least, most in rules)
    return (told_as(low), told_as(high)) if low <= high else None


def clashes(rules):
    """All pairs of rules that clash, in order."""
    return sorted(
        (one, other) for one in rules for other in rules
        if share(one[1], one[0]) > share(other[2], other[0])
    )


def longest_rows(rules):
    """All of the longest rows, None where rows go on for ever; all rows, place by place, till there are none."""
    if how_far(rules, ()) is None:
        return None
    rows = [()]
    while True:
        longer = [row + (place,) for row in rows for place in (0, 1) if does_keep(rules, row + (place,))]
        if not longer:
            return rows
        rows = longer


def told_rows(length):
    """All told rows of this length."""
    return list(product((0, 1, None), repeat=length))


def all_fillings(rules, told):
    """All fillings of a told row, in order."""
    choices = [(0, 1) if part is None else (part,) for part in told]
    return [row for row in product(*choices) if does_keep(rules, row)]


def what_step_gains(rules, told, here, there):
    """What one step gains, None where there is none; by the document's words."""
    ways = []
    for span, least, most in rules:
        if there == here + span:
            ways.append(least)
        if there == here - span:
            ways.append(-most)
    if there == here + 1:
        ways.append(1 if told[here] == 1 else 0)
    if there == here - 1:
        ways.append(0 if told[there] == 0 else -1)
    return max(ways) if ways else None


def what_gains(rules, told, seams):
    """What a list of seams gains, all of them in range, None where one step is none."""
    total = 0
    for here, there in zip(seams, seams[1:]):
        gained = what_step_gains(rules, told, here, there)
        if gained is None:
            return None
        total += gained
    return total
