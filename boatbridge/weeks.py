"""When a rule of hours allows, worked out once for all weeks: all of it comes again each week."""

from boatbridge.hours import WEEK, Both, Days, Either, Hours, Unless
from boatbridge.stretches import Stretch, gaps, joined, meet
from boatbridge.times import DAY

MINUTES = 10080
WEEKS_AHEAD = 3


class Week:
    """What a Rule allows in each week; None allows all."""

    def __init__(self, rule):
        self._allowed = _where(Both(()) if rule is None else rule, True)
        # From any minute of the first week on, what ever begins does so a week on at the latest,
        # and so it ends in the third one; put together, no midnight between weeks cuts it.
        self._runs = joined(_in_weeks(self._allowed, 0, WEEKS_AHEAD))

    def soonest(self, minute, long):
        """The least minute from this one on from which so many minutes side by side are allowed, or None."""
        week, clock = divmod(minute, MINUTES)
        for run in self._runs:
            begin = max(run.first, clock)
            if begin + long <= run.behind:
                return week * MINUTES + begin
        return None

    def allowed_within(self, within):
        """The Stretches of a Stretch's allowed minutes, as few as can be, rising."""
        weeks = _in_weeks(self._allowed, within.first // MINUTES, within.behind // MINUTES + 1)
        cut = [meet(stretch, within) for stretch in weeks]
        return joined([stretch for stretch in cut if stretch is not None])


def _in_weeks(some, first, behind):
    """The Stretches of one week in each of the weeks from first up to but without behind."""
    return [
        Stretch(week * MINUTES + stretch.first, week * MINUTES + stretch.behind)
        for week in range(first, behind)
        for stretch in some
    ]


def _where(rule, allowed):
    """The Stretches of the first week in which the rule allows, or those in which it doesn't."""
    if isinstance(rule, Unless):
        return _where(rule.rule, not allowed)
    if isinstance(rule, Both):
        # They allow but where one of them doesn't.
        some = [stretch for part in rule.rules for stretch in _where(part, False)]
        return _some_or_rest(some, not allowed)
    if isinstance(rule, Either):
        some = [stretch for part in rule.rules for stretch in _where(part, True)]
        return _some_or_rest(some, allowed)
    return _some_or_rest(_where_alone(rule), allowed)


def _some_or_rest(some, told):
    """The Stretches put together, or the rest of the week."""
    return joined(some) if told else gaps(some, Stretch(0, MINUTES))


def _where_alone(rule):
    """The Stretches of the first week in which a rule with no rule in it allows."""
    if isinstance(rule, Days):
        return [Stretch(day * DAY, (day + 1) * DAY) for day in rule.days]
    if isinstance(rule, Hours):
        return [stretch for day in range(WEEK) for stretch in _hours_of(rule, day * DAY)]
    return [Stretch(0, MINUTES)]


def _hours_of(hours, midnight):
    if hours.first < hours.behind:
        return [Stretch(midnight + hours.first, midnight + hours.behind)]
    return [Stretch(midnight, midnight + hours.behind), Stretch(midnight + hours.first, midnight + DAY)]
