"""The limits within which webs, numbers and lists stay."""

MOST_PLACES = 7
MOST_TIES = 11
MOST_LENGTH = 10 ** 9
MOST_ROOM = 10 ** 12
MOST_HEAP = 10 ** 6
MOST_DYE = 7
MOST_REST = 100
MOST_DOUBTS = 6
MOST_LIST = 2500
MOST_WALKERS = 200
