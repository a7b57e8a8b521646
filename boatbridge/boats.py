"""The boats that the bridge lies on."""


class Boat:
    """A boat by its name, and the weight that it bears."""

    def __init__(self, name, bears):
        self.name = name
        self.bears = bears

    def __eq__(self, other):
        return isinstance(other, Boat) and self.name == other.name and self.bears == other.bears

    def __str__(self):
        return f"{self.name}:{self.bears}"

    def __repr__(self):
        return f"Boat({self.name!r}, {self.bears})"
