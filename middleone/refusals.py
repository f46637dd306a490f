"""The numbers below 0 that a call answers when it refuses."""

NOT_SO_MANY = -2
NOT_NOW = -11
SEARCH_IS_OLD = -13
OUT_OF_BOUNDS = -22
NO_ROOM = -28
NOT_RIGHT = -71
