"""Places, which are pairs of whole numbers, and how far it is between them."""

LEAST = -1000
MOST = 1000


def is_place(x, y):
    return LEAST <= x <= MOST and LEAST <= y <= MOST


def how_far(one, other):
    return abs(one[0] - other[0]) + abs(one[1] - other[1])
