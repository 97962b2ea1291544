"""The numbers by which a call is refused."""

NO_SUCH = -2
NONE_THERE = -6
NOT_AS_TOLD = -22
NO_ROOM = -28
IN_NO_WAY = -33
NOT_BEGUN = -61
