"""Chains of steps from seam to seam, what they gain, and what they show of a told row."""

from anyspan.fillings import must_be_told
from anyspan.rules import is_whole, must_be_rules


def rule_gain(rule, is_on):
    """What a step as long as the rule's span gains by the rule."""
    return rule[1] if is_on else -rule[2]


def place_gain(part, is_on):
    """What a step over one place gains by what is told there."""
    if is_on:
        return 1 if part == 1 else 0
    return 0 if part == 0 else -1


def step_gain(rules, told, here, there):
    """What the step from the seam here to the seam there gains, None where no step leads there."""
    length = abs(there - here)
    is_on = there > here
    gains = [rule_gain(rule, is_on) for rule in rules if rule[0] == length]
    if length == 1:
        gains.append(place_gain(told[min(here, there)], is_on))
    return max(gains, default=None)


def all_steps(rules, told):
    """All steps along a told row, each as (from where, to where, what it gains)."""
    lengths = sorted(set([1] + [rule[0] for rule in rules]))
    pairs = [
        (here, there)
        for here in range(len(told) + 1)
        for length in lengths
        for there in (here - length, here + length)
        if 0 <= there <= len(told)
    ]
    return [(here, there, step_gain(rules, told, here, there)) for here, there in pairs]


def improve(steps, best, before):
    """Take each step once where it gains more than is known so far; the last seam that it bettered, None where none.

    best holds the most that is known to be gained up to each seam, before the seam that the step there came from.
    """
    bettered = None
    for here, there, gained in steps:
        if here in best and (there not in best or best[here] + gained > best[there]):
            best[there] = best[here] + gained
            before[there] = here
            bettered = there
    return bettered


def search(steps, many, start):
    """The most that chains gain from the seam start to each of so many seams, and the seams they come from.

    The third thing told is a seam that chains which end where they began better for ever, None where there is none.
    """
    best = {start: 0}
    before = {}
    bettered = start
    # Without a chain that ends where it began and gains more than 0, the best chains pass no seam twice. So each
    # is found after one round fewer than there are seams, and the last round betters nothing.
    for turn in range(many):
        bettered = improve(steps, best, before)
        if bettered is None:
            break
    return best, before, bettered


def chain_back(before, start, last):
    """The chain from the seam start to the last one, along the seams they come from."""
    seams = [last]
    while seams[-1] != start:
        seams.append(before[seams[-1]])
    return seams[::-1]


def round_chain(before, seam):
    """A chain that ends where it began, among the seams from which this one comes."""
    # A seam bettered in the last of as many rounds as there are seams comes from one bettered a round before at the
    # earliest, and so on: going back as often, some seam is passed twice, and the seams between go round.
    for turn in range(len(before)):
        seam = before[seam]
    return chain_back(before, seam, before[seam]) + [seam]


def chain(rules, told):
    """A chain that shows that the told row has no filling by rules, None where there is one."""
    must_be_rules(rules)
    must_be_told(told)
    best, before, bettered = search(all_steps(rules, told), len(told) + 1, 0)
    if bettered is None:
        return None
    return round_chain(before, bettered)


def is_seam(thing, told):
    """Whether thing is a seam of the told row."""
    return is_whole(thing) and 0 <= thing <= len(told)


def gain(rules, told, thing):
    """What thing gains as a chain, None where it is no chain."""
    must_be_rules(rules)
    must_be_told(told)
    if not isinstance(thing, list) or len(thing) < 2:
        return None
    if not all([is_seam(part, told) for part in thing]):
        return None
    gains = [step_gain(rules, told, here, there) for here, there in zip(thing, thing[1:])]
    if any([gained is None for gained in gains]):
        return None
    return sum(gains)


def marks(rules, told):
    """The fewest and the most marks that a filling of a told row has, None where there is none."""
    must_be_rules(rules)
    must_be_told(told)
    steps = all_steps(rules, told)
    last = len(told)
    on, before, bettered = search(steps, last + 1, 0)
    if bettered is not None:
        return None
    back, before, bettered = search(steps, last + 1, last)
    return (on[last], -back[0])


def mark_chains(rules, told):
    """Two chains that show the fewest and the most marks of a filling, None where there is none."""
    must_be_rules(rules)
    must_be_told(told)
    steps = all_steps(rules, told)
    last = len(told)
    best, on, bettered = search(steps, last + 1, 0)
    if bettered is not None:
        return None
    best, back, bettered = search(steps, last + 1, last)
    return (chain_back(on, 0, last), chain_back(back, last, 0))
