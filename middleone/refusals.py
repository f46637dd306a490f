"""The numbers below 0 that a call answers when it refuses."""

SEARCH_IS_OLD = -13
OUT_OF_BOUNDS = -22
NO_ROOM = -28
NOT_RIGHT = -71
