"""The words by which events are told, and books written."""

ON = "on"
OFF = "off"
TURN = "turn"
OUT = "out"
THROUGH = "through"
BACK = "back"
DOWN = "down"
