"""The numbers of the refusals, and the bounds beyond which a call is refused."""

NOT_THERE = -1
BAD_END = -2
NOTHING = -5
TOO_MANY = -6
NOT_NOW = -8

MOST_WHAT = 4
MOST_MUCH = 1000
MOST_TICKS = 10000
MOST_TURNS = 500
FULL_AIR = 150
