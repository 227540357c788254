"""The numbers that refused calls answer."""

NONE_THERE = -2
NOT_THAT_WAY = -6
NONE_LEFT = -12
NOT_READY = -13
NOT_FITTING = -16
ALREADY = -17
NOT_AS_TOLD = -22
NO_ROOM = -28
CANNOT_BE = -33
TOO_MUCH_PULL = -62
NOT_IN_SHOP = -71
TOO_LATE = -75

# Answered by those who look for a refusal and find none due.
NO_REFUSAL = 0
