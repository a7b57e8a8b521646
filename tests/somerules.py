"""Rules of hours for the tests: all kinds, and what they allow looked at minute by minute."""

from boatbridge.hours import Both, Days, Either, Hours, Unless

DAY = 1440
WEEK = 7 * DAY

ALL = Both(())
NEVER = Either(())
MORNING = Hours(480, 630)
NIGHT = Hours(1320, 360)
TUESDAYS = Days((2,))


def six_deep():
    """Mondays from 06:00 to 07:00, and all of Sundays but 12:00 to 12:30."""
    noon = Both((Days((6,)), Unless(Hours(720, 750))))
    inner = Either((Both((Days((0,)), Unless(Unless(Hours(360, 420))))), noon))
    return Unless(Unless(inner))


def random_rule(chance, deep):
    """A rule at most so deep; its clocks are few, so that they often meet."""
    kind = chance.choice(["hours", "days"] if deep == 1 else ["hours", "days", "unless", "both", "either"])
    if kind == "hours":
        return Hours(*chance.sample([0, 1, 2, 359, 360, 361, 480, 700, 720, 1000, 1320, 1438, 1439], 2))
    if kind == "days":
        return Days(tuple(sorted(chance.sample(range(7), chance.randint(1, 7)))))
    if kind == "unless":
        return Unless(random_rule(chance, deep - 1))
    parts = tuple(random_rule(chance, deep - 1) for _ in range(chance.randint(0, 3)))
    return Both(parts) if kind == "both" else Either(parts)


def week_of(rule):
    """Of each minute of a week whether it is allowed."""
    return [rule.allows(minute) for minute in range(WEEK)]


def rows_ahead(week):
    """Of each minute of a week how many minutes from it on are allowed side by side; a week and a day at most."""
    found = [0] * WEEK
    many = 0
    for minute in reversed(range(2 * WEEK + DAY)):
        many = many + 1 if week[minute % WEEK] else 0
        found[minute % WEEK] = min(many, WEEK + DAY)
    return found


def first_by_hand(rows, minute, long):
    """The least minute from this one on with so long a row ahead of it, looked for a week long; or None."""
    for later in range(minute, minute + WEEK):
        if rows[later % WEEK] >= long:
            return later
    return None


def stretches_by_hand(rule, first, behind):
    """The allowed minutes from first up to but without behind, as tuples (first, behind)."""
    told = []
    for minute in range(first, behind):
        if rule.allows(minute):
            if told and told[-1][1] == minute:
                told[-1] = (told[-1][0], minute + 1)
            else:
                told.append((minute, minute + 1))
    return told
