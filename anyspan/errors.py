"""The refusals. Each stands under SpanError, none under another one."""


class SpanError(ValueError):
    """Any refusal."""


class NoRules(SpanError):
    """What should be rules is none."""


class NoRow(SpanError):
    """What should be a row is none, or a begun row breaks the rules."""


class NoTold(SpanError):
    """What should be a told row is none."""


class NoPart(SpanError):
    """What should be a fraction from 0 to 1 is none."""


class NoNumber(SpanError):
    """What should be a number of places is none."""


class NoPlace(SpanError):
    """What should be a place is neither 0 nor 1."""


class Full(SpanError):
    """No further place can be laid, as many lie as can."""


class NoneLeft(SpanError):
    """No place lies that could be taken away."""


class Breaks(SpanError):
    """A place that would break a rule; its field tells which one."""

    def __init__(self, rule):
        super().__init__(f"this would break the rule {rule}")
        self.rule = rule
