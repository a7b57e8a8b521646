"""Windows of rules: the minutes side by side that a rule of hours allows."""

from boatbridge.weeks import Week


def first_allowed(rule, minute, long=1):
    """The least minute from this one on from which so many minutes side by side are allowed, or None."""
    return Week(rule).soonest(minute, long)


def allowed_in(rule, within):
    """The Stretches of a Stretch's allowed minutes, as few as can be, rising."""
    return Week(rule).allowed_within(within)
