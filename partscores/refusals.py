"""The numbers by which a call is refused."""

NOT_THERE = -2
AT_ONCE = -17
NOT_ALLOWED = -22
NO_ROOM = -28
NO_PAGES = -33
OUT_OF_RANGE = -34
NOT_A_PART = -71
