"""Rules of hours: what minutes they allow, and how they are written."""

from boatbridge.times import DAY, show_time

WEEK = 7


class Rule:
    """Tells of each minute whether it is allowed; by itself it bars none."""

    def allows(self, minute):
        """Whether the minute is allowed."""
        return True


class Hours(Rule):
    """Allows the clocks from first up to but without behind, over midnight where behind is less."""

    def __init__(self, first, behind):
        self.first = first
        self.behind = behind

    def __eq__(self, other):
        return isinstance(other, Hours) and self.first == other.first and self.behind == other.behind

    def __str__(self):
        return f"{show_time(self.first)}-{show_time(self.behind)}"

    def allows(self, minute):
        """Whether the minute's clock is within the hours."""
        clock = minute % DAY
        if self.first < self.behind:
            return self.first <= clock < self.behind
        return clock >= self.first or clock < self.behind


class Days(Rule):
    """Allows the weekdays of a rising tuple, each from 0 to 6."""

    def __init__(self, days):
        self.days = tuple(days)

    def __eq__(self, other):
        return isinstance(other, Days) and self.days == other.days

    def __str__(self):
        return " ".join(["( days", *[str(day) for day in self.days], ")"])

    def allows(self, minute):
        """Whether the minute's weekday is one of the days."""
        return (minute // DAY) % WEEK in self.days


class Unless(Rule):
    """Allows what another Rule doesn't."""

    def __init__(self, rule):
        self.rule = rule

    def __eq__(self, other):
        return isinstance(other, Unless) and self.rule == other.rule

    def __str__(self):
        return f"( unless {self.rule} )"

    def allows(self, minute):
        """Whether the rule doesn't allow the minute."""
        return not self.rule.allows(minute)


class Both(Rule):
    """Allows what all Rules of a tuple allow; of none, all minutes."""

    def __init__(self, rules):
        self.rules = tuple(rules)

    def __eq__(self, other):
        return isinstance(other, Both) and self.rules == other.rules

    def __str__(self):
        return " ".join(["( both", *[str(rule) for rule in self.rules], ")"])

    def allows(self, minute):
        """Whether all of the rules allow the minute."""
        return all([rule.allows(minute) for rule in self.rules])


class Either(Rule):
    """Allows what some of the Rules of a tuple allows; of none, no minute."""

    def __init__(self, rules):
        self.rules = tuple(rules)

    def __eq__(self, other):
        return isinstance(other, Either) and self.rules == other.rules

    def __str__(self):
        return " ".join(["( either", *[str(rule) for rule in self.rules], ")"])

    def allows(self, minute):
        """Whether some of the rules allows the minute."""
        return any([rule.allows(minute) for rule in self.rules])
