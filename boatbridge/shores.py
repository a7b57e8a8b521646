"""The two banks that the bridge lies between."""

NEAR = "near"
FAR = "far"


def is_bank(thing):
    """Whether thing is the name of a bank."""
    return thing in (NEAR, FAR)


def other_bank(bank):
    """The bank over there."""
    return FAR if bank == NEAR else NEAR
