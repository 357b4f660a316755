"""The document's numbers by name: calls, phases, and what becomes of people."""

BEGIN = 1
EXCUSE = 2
STRIKE = 3
PASS = 4
OBJECT = 5
LET = 6
AGREE = 7
VERDICT = 8
NOW = 9
BOX = 10
FATES = 11

PICKING_JURY = 0
PICKING_ALTERNATES = 1
SWORN = 2
TOO_FEW = 3
OVER = 4

WAITS = 0
SITS = 1
EXCUSED = 2
# Struck by side 0; by side 1 it is one more.
STRUCK = 3
ALTERNATE = 5
LET_GO = 6

SIDES = (0, 1)
NOBODY = -1
