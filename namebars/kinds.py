"""The kinds of acts."""

PLACE = 1
SINK = 2
REVIVE = 3
STATUS = 4
ADVANCE = 5
REPLACED = 6
LIFT = 7
