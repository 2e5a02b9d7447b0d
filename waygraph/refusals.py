"""The numbers by which a call is refused."""

WRONG = -1
ABSENT = -3
PRESENT = -4
FULL = -5
