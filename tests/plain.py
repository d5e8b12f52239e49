"""What the document's words say, gone through the long way with Python's sets."""

from collections import Counter
from fractions import Fraction
from itertools import combinations
from math import floor, gcd

TOP = 2 ** 64 - 1
T_LOW = -(2 ** 63)
T_HIGH = 2 ** 63 - 1
WHEELS_REFUSED = (0, 65, 66, 100, 2 ** 32, 2 ** 63, TOP)


def members(n, a):
    return {x for x in range(n) if a // 2 ** x % 2 == 1}


def number_of(places):
    return sum(2 ** x for x in places)


def full(n):
    return 2 ** n - 1


def some_sets(n):
    """Sets of several sizes and shapes, the empty one and the whole wheel among them."""
    picked = {0, 1, full(n), 2 ** (n - 1), full(n) - 1}
    picked.add(number_of(range(0, n, 3)))
    picked.add(number_of(x for x in range(n) if x * x % 7 in (1, 2)))
    picked.add(0x9E3779B97F4A7C15 % 2 ** n)
    return sorted(picked)


def turned(n, t, a):
    return number_of({(x + t) % n for x in members(n, a)})


def flipped(n, t, a):
    return number_of({(t - x) % n for x in members(n, a)})


def scaled(n, m, a):
    return number_of({m * x % n for x in members(n, a)})


def sum_of(n, a, b):
    return number_of({(x + y) % n for x in members(n, a) for y in members(n, b)})


def allowed(n, kind, m, t):
    if not (1 <= m <= n and gcd(m, n) == 1 and 0 <= t < n):
        return False
    every_turn, flips, every_factor = kind % 2 == 1, kind // 2 % 2 == 1, kind // 4 == 1
    return (every_turn or t == 0) and (every_factor or m == 1 or (flips and m == n - 1))


def maps(n, kind):
    return [(m, t) for m in range(n + 1) for t in range(n + 1) if allowed(n, kind, m, t)]


def mapped(n, m, t, a):
    return number_of({(m * x + t) % n for x in members(n, a)})


def map_of(n, kind, a, b):
    """The first map, or None."""
    return min([pair for pair in maps(n, kind) if mapped(n, *pair, a) == b], default=None)


def alike(n, kind, a):
    """Each set that is alike a, with its first map."""
    found = {}
    for m, t in reversed(maps(n, kind)):
        found[mapped(n, m, t, a)] = (m, t)
    return found


def period(n, a):
    return min(t for t in range(1, n + 1) if turned(n, t, a) == a)


def counts(n, a, b):
    return [len([1 for x in members(n, a) if (x + d) % n in members(n, b)]) for d in range(n)]


def twins(n, a, b):
    if map_of(n, 3, a, b) is not None:
        return 2
    return 1 if counts(n, a, a) == counts(n, b, b) else 0


def twin_rows(n):
    """For each set of n its least twin, or None."""
    same = {}
    for a in range(2 ** n):
        same.setdefault(tuple(counts(n, a, a)), []).append(a)
    rows = {}
    for group in same.values():
        for a in group:
            rows[a] = min(set(group) - set(alike(n, 3, a)), default=None)
    return rows


def most_often(n, a):
    """How often the distance from 1 to n - 1 that comes most often comes."""
    return max(counts(n, a, a)[1:], default=0)


def tiles(n, a, b):
    ways = Counter((x + y) % n for x in members(n, a) for y in members(n, b))
    return 1 if all(ways[place] == 1 for place in range(n)) else 0


def mates(n, a):
    size = len(members(n, a))
    if size == 0 or n % size != 0:
        return []
    picks = combinations(range(n), n // size)
    return sorted(b for b in map(number_of, picks) if tiles(n, a, b) == 1)


def even(n, k, r):
    return number_of({floor(Fraction(n * i + r, k)) for i in range(k)})


def spans(n, i, a):
    places = sorted(members(n, a))
    size = len(places)
    further = {j: places[j % size] + n * (j // size) for j in range(size + i)}
    return sorted({further[j + i] - further[j] for j in range(size)})


def check_one_set_refusals(case, call, most):
    """call(n, a) refuses a wrong wheel, whatever the set, and on wheels up to most any bit from n on."""
    for n in WHEELS_REFUSED:
        for a in (0, 1, 5, TOP):
            case.assertEqual([-1], call(n, a), (n, a))
    for n in range(1, most + 1):
        for a in (2 ** n, 2 ** n + 1, 2 ** 63, TOP):
            case.assertEqual([-1], call(n, a), (n, a))


def check_repeatable(case, call, rows):
    """Answers are lists of plain ints; a changed answer and calls in between leave no trace."""
    firsts = []
    for row in rows:
        answer = call(*row)
        case.assertIs(list, type(answer))
        for value in answer:
            case.assertIs(int, type(value))
        firsts.append(list(answer))
        answer[0] = 98
        answer.append(99)
    kept = [tuple(row) for row in rows]
    case.assertEqual(firsts, [call(*row) for row in rows])
    case.assertEqual(firsts[::-1], [call(*row) for row in rows[::-1]])
    case.assertEqual(kept, [tuple(row) for row in rows])
