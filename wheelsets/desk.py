"""The calls: each answers one list, a refusal's number alone or 0 and what is told.

A set of places is a whole number whose bit x is 1 if place x is in it.
"""

MOST_PLACES = 64
DONE = 0
NOT_FITTING = -1


def is_wheel(n):
    return n != 0 and n <= MOST_PLACES


def is_set_of(n, a):
    # The wheel is looked at first: n may be far too great a number to shift by.
    return is_wheel(n) and a >> n == 0


def places_of(n, a):
    return [x for x in range(n) if (a >> x) & 1 == 1]


def image(n, m, t, a):
    """The set of the places m x + t, x in a; m and t are any whole numbers."""
    result = 0
    for x in places_of(n, a):
        # Not a sum of bits: two places may come to one.
        result = result | (1 << ((m * x + t) % n))
    return result


def turned(n, t, a):
    if not is_set_of(n, a):
        return [NOT_FITTING]
    return [DONE, image(n, 1, t, a)]


def flipped(n, t, a):
    if not is_set_of(n, a):
        return [NOT_FITTING]
    return [DONE, image(n, -1, t, a)]


def scaled(n, m, a):
    if not is_set_of(n, a):
        return [NOT_FITTING]
    return [DONE, image(n, m, 0, a)]


def sum_of(n, a, b):
    if not is_set_of(n, a) or not is_set_of(n, b):
        return [NOT_FITTING]
    result = 0
    for y in places_of(n, b):
        result = result | image(n, 1, y, a)
    return [DONE, result]
