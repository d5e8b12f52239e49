"""The calls: each answers one list, a refusal's number alone or 0 and what is told.

A set of places is a whole number whose bit x is 1 if place x is in it.
"""

MOST_PLACES = 64
MOST_KIND = 7
EVERY_TURN = 1
FLIPS = 2
EVERY_FACTOR = 4
TURNS_AND_FLIPS = 3
DONE = 0
NOT_FITTING = -1
NONE_THERE = -2


def is_wheel(n):
    return n != 0 and n <= MOST_PLACES


def is_set_of(n, a):
    # The wheel is looked at first: n may be far too great a number to shift by.
    return is_wheel(n) and (a >> n) == 0


def is_set_and_kind(n, kind, a):
    return is_set_of(n, a) and kind <= MOST_KIND


def places_of(n, a):
    return [x for x in range(n) if ((a >> x) & 1) == 1]


def image(n, m, t, a):
    """The set of the places m x + t, x in a; m and t are any whole numbers."""
    result = 0
    for x in places_of(n, a):
        # Not a sum of bits: two places may come to one.
        result = result | (1 << ((m * x + t) % n))
    return result


def common_divisor(x, y):
    while y != 0:
        rest = x % y
        x = y
        y = rest
    return x


def allowed_factors(n, kind):
    if (kind & EVERY_FACTOR) != 0:
        return [m for m in range(1, n + 1) if common_divisor(m, n) == 1]
    # On a wheel of 1 place n - 1 is 0, which is no factor of a map; on one of 2 it is 1 again.
    if (kind & FLIPS) != 0 and n > 2:
        return [1, n - 1]
    return [1]


def allowed_turns(n, kind):
    if (kind & EVERY_TURN) != 0:
        return list(range(n))
    return [0]


def allowed_maps(n, kind):
    """The allowed maps (m, t), by m, then by t."""
    maps = []
    for m in allowed_factors(n, kind):
        for t in allowed_turns(n, kind):
            maps.append((m, t))
    return maps


def alike_sets(n, kind, a):
    """The sets that are alike a, one for each allowed map: several maps may take a to one set."""
    return [image(n, m, t, a) for m, t in allowed_maps(n, kind)]


def distance_counts(n, a, b):
    """For each d below n in how many ways a place of b is a place of a plus d."""
    ways = [0] * n
    ends = places_of(n, b)
    for x in places_of(n, a):
        for y in ends:
            d = (y - x) % n
            ways[d] = ways[d] + 1
    return ways


def sets_of_size(n, k):
    """All sets of n of size k, rising; for small wheels alone, as every set of n is looked at."""
    return [a for a in range(1 << n) if len(places_of(n, a)) == k]


def packings(n, a):
    """Each b with which no place is x + y in two ways, x in a, y in b: pairs of b and the set of the places x + y."""
    pairs = [(0, 0)]
    # From the lowest place up: so they come by b, rising.
    for y in range(n):
        moved = image(n, 1, y, a)
        pairs = pairs + [(b | (1 << y), reached | moved) for b, reached in pairs if (reached & moved) == 0]
    return pairs


def different_spans(n, i, places):
    """The different spans of i steps, rising; i is from 1 to how many places there are, less 1."""
    # One more round is enough, as i is less than the size.
    onward = places + [x + n for x in places]
    return sorted(set([onward[j + i] - onward[j] for j in range(len(places))]))


def primes_dividing(n):
    primes = []
    for p in range(2, n + 1):
        if n % p == 0 and all([p % q != 0 for q in primes]):
            primes.append(p)
    return primes


def comes_to_nothing(n, d, weights):
    """Whether the sum of the x-th weight times direction d x is 0, by whole numbers alone."""
    rest = [0] * n
    for x in range(n):
        e = (d * x) % n
        # Several places may come to one direction.
        rest[e] = rest[e] + weights[x]
    # Each step multiplies the sum by 1 less direction n / p, which isn't 0, and takes away all that could
    # be left on the directions though the sum is 0.
    for p in primes_dividing(n):
        t = n // p
        rest = [rest[e] - rest[(e - t) % n] for e in range(n)]
    return rest == [0] * n


def round_lengths(n, m, t):
    """The lengths of the rounds in which the map (m, t) takes the places; it leaves a union of rounds as it is."""
    seen = [False] * n
    lengths = []
    for start in range(n):
        x = start
        steps = 0
        while not seen[x]:
            seen[x] = True
            x = (m * x + t) % n
            steps = steps + 1
        if steps != 0:
            lengths.append(steps)
    return lengths


def unions_of_size(lengths, k):
    """How many unions of rounds of these lengths have k places."""
    ways = [1] + [0] * k
    for length in lengths:
        # From the greatest size down, so that no round is taken twice.
        for size in range(k, length - 1, -1):
            ways[size] = ways[size] + ways[size - length]
    return ways[k]


def class_row(n, k, kind):
    """The classes of size k, rising; for small wheels alone."""
    row = []
    seen = {}
    for a in sets_of_size(n, k):
        # Sets come rising: the first of those that are alike is their least.
        if a not in seen:
            row.append(a)
            for b in alike_sets(n, kind, a):
                seen[b] = True
    return row


def way(n, x, y):
    return min((y - x) % n, (x - y) % n)


def least_move(n, starts, ends):
    """The least sum of ways and the first row that has it; there are as many starts as ends."""
    # For each choice of ends, by its number as a set: the best that the last starts can do with just these.
    best = [(0, [])]
    for choice in range(1, 1 << len(ends)):
        picks = places_of(len(ends), choice)
        x = starts[len(starts) - len(picks)]
        tries = []
        for j in picks:
            rest = best[choice - (1 << j)]
            tries.append((way(n, x, ends[j]) + rest[0], [ends[j]] + rest[1]))
        best.append(min(tries))
    return best[-1]


def row_answer(numbers):
    return [DONE, len(numbers)] + numbers


def turned(n, t, a):
    if not is_set_of(n, a):
        return [NOT_FITTING]
    return [DONE, image(n, 1, t, a)]


def flipped(n, t, a):
    if not is_set_of(n, a):
        return [NOT_FITTING]
    return [DONE, image(n, -1, t, a)]


def scaled(n, m, a):
    if not is_set_of(n, a):
        return [NOT_FITTING]
    return [DONE, image(n, m, 0, a)]


def sum_of(n, a, b):
    if not is_set_of(n, a) or not is_set_of(n, b):
        return [NOT_FITTING]
    result = 0
    for y in places_of(n, b):
        result = result | image(n, 1, y, a)
    return [DONE, result]


def least(n, kind, a):
    if not is_set_and_kind(n, kind, a):
        return [NOT_FITTING]
    # a is alike itself by the first allowed map of every kind, (1, 0).
    best = [DONE, a, 1, 0]
    for m, t in allowed_maps(n, kind):
        b = image(n, m, t, a)
        if b < best[1]:
            best = [DONE, b, m, t]
    return best


def map_of(n, kind, a, b):
    if not is_set_and_kind(n, kind, a) or not is_set_of(n, b):
        return [NOT_FITTING]
    for m, t in allowed_maps(n, kind):
        if image(n, m, t, a) == b:
            return [DONE, m, t]
    return [NONE_THERE]


def many(n, kind, a):
    if not is_set_and_kind(n, kind, a):
        return [NOT_FITTING]
    return [DONE, len(set(alike_sets(n, kind, a)))]


def period(n, a):
    if not is_set_of(n, a):
        return [NOT_FITTING]
    t = 1
    # It ends at n at the latest: the whole round brings every set back.
    while image(n, 1, t, a) != a:
        t = t + 1
    return [DONE, t]


def counts(n, a, b):
    if not is_set_of(n, a) or not is_set_of(n, b):
        return [NOT_FITTING]
    return row_answer(distance_counts(n, a, b))


def twins(n, a, b):
    if not is_set_of(n, a) or not is_set_of(n, b):
        return [NOT_FITTING]
    if b in alike_sets(n, TURNS_AND_FLIPS, a):
        return [DONE, 2]
    if distance_counts(n, a, a) == distance_counts(n, b, b):
        return [DONE, 1]
    return [DONE, 0]


def twin(n, a):
    if not is_set_of(n, a):
        return [NOT_FITTING]
    alike = alike_sets(n, TURNS_AND_FLIPS, a)
    own = distance_counts(n, a, a)
    # A twin has the size of a, as that is the count at distance 0.
    for b in sets_of_size(n, len(places_of(n, a))):
        if b not in alike and distance_counts(n, b, b) == own:
            return [DONE, b]
    return [NONE_THERE]


def rule(n, k, most):
    if not is_wheel(n):
        return [NOT_FITTING]
    for a in sets_of_size(n, k):
        if all([times <= most for times in distance_counts(n, a, a)[1:]]):
            return [DONE, a]
    return [NONE_THERE]


def tiles(n, a, b):
    if not is_set_of(n, a) or not is_set_of(n, b):
        return [NOT_FITTING]
    # y is -x plus a place just where the place is x + y.
    ways = distance_counts(n, image(n, -1, 0, a), b)
    return [DONE, 1 if ways == [1] * n else 0]


def mates(n, a):
    if not is_set_of(n, a):
        return [NOT_FITTING]
    whole = (1 << n) - 1
    return row_answer([b for b, reached in packings(n, a) if reached == whole])


def even(n, k, r):
    if not is_wheel(n) or k > n or r >= n:
        return [NOT_FITTING]
    result = 0
    for i in range(k):
        result = result | (1 << ((n * i + r) // k))
    return [DONE, result]


def spans(n, i, a):
    if not is_set_of(n, a):
        return [NOT_FITTING]
    places = places_of(n, a)
    if i < 1 or i >= len(places):
        return [NONE_THERE]
    return row_answer(different_spans(n, i, places))


def level(n, a):
    if not is_set_of(n, a):
        return [NOT_FITTING]
    places = places_of(n, a)
    rows = [different_spans(n, i, places) for i in range(1, len(places))]
    if all([row[-1] - row[0] <= 1 for row in rows]):
        return [DONE, 2]
    if all([len(row) <= 2 for row in rows]):
        return [DONE, 1]
    return [DONE, 0]


def silent(n, a):
    if not is_set_of(n, a):
        return [NOT_FITTING]
    weights = [(a >> x) & 1 for x in range(n)]
    return row_answer([d for d in range(n) if comes_to_nothing(n, d, weights)])


def cancels(n, d, weights):
    if not is_wheel(n) or len(weights) != n:
        return [NOT_FITTING]
    return [DONE, 1 if comes_to_nothing(n, d, weights) else 0]


def count(n, k, kind):
    if not is_wheel(n) or kind > MOST_KIND:
        return [NOT_FITTING]
    if k > n:
        return [NONE_THERE]
    maps = allowed_maps(n, kind)
    # Sets alike one another have together as many pairs of a map and a set that it leaves as it is as there are maps.
    pairs = sum([unions_of_size(round_lengths(n, m, t), k) for m, t in maps])
    return [DONE, pairs // len(maps)]


def kth(n, k, kind, i):
    if not is_wheel(n) or kind > MOST_KIND:
        return [NOT_FITTING]
    row = class_row(n, k, kind)
    if i >= len(row):
        return [NONE_THERE]
    return [DONE, row[i]]


def number(n, kind, a):
    if not is_set_and_kind(n, kind, a):
        return [NOT_FITTING]
    row = class_row(n, len(places_of(n, a)), kind)
    return [DONE, row.index(min(alike_sets(n, kind, a)))]


def classes(n, k, kind):
    if not is_wheel(n) or kind > MOST_KIND:
        return [NOT_FITTING]
    return row_answer(class_row(n, k, kind))


def move(n, a, b):
    if not is_set_of(n, a) or not is_set_of(n, b):
        return [NOT_FITTING]
    starts = places_of(n, a)
    ends = places_of(n, b)
    if len(starts) != len(ends):
        return [NONE_THERE]
    best = least_move(n, starts, ends)
    return [DONE, best[0], len(ends)] + best[1]
