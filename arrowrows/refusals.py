"""The numbers that a refusal answers, and the bounds behind some of them."""

NOT_LET = -1
NO_INSTANCE = -2
NOT_THERE = -3
TOO_MANY = -5
NOT_RIGHT = -6

MOST_THINGS = 3
MOST_ARROWS = 9
MOST_ROWS = 6
HOW_MANY_INSTANCES = 3
