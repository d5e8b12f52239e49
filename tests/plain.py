"""What the document's words say, gone through the long way with Python's sets."""

from collections import Counter
from copy import deepcopy
from fractions import Fraction
from functools import cache
from itertools import combinations, permutations
from math import floor, gcd

TOP = 2 ** 64 - 1
T_LOW = -(2 ** 63)
T_HIGH = 2 ** 63 - 1
WHEELS_REFUSED = (0, 65, 66, 100, 2 ** 32, 2 ** 63, TOP)


def members(n, a):
    return {x for x in range(n) if a // 2 ** x % 2 == 1}


def number_of(places):
    return sum(2 ** x for x in places)


def full(n):
    return 2 ** n - 1


def some_sets(n):
    """Sets of several sizes and shapes, the empty one and the whole wheel among them."""
    picked = {0, 1, full(n), 2 ** (n - 1), full(n) - 1}
    picked.add(number_of(range(0, n, 3)))
    picked.add(number_of(x for x in range(n) if x * x % 7 in (1, 2)))
    picked.add(0x9E3779B97F4A7C15 % 2 ** n)
    return sorted(picked)


def turned(n, t, a):
    return number_of({(x + t) % n for x in members(n, a)})


def flipped(n, t, a):
    return number_of({(t - x) % n for x in members(n, a)})


def scaled(n, m, a):
    return number_of({m * x % n for x in members(n, a)})


def sum_of(n, a, b):
    return number_of({(x + y) % n for x in members(n, a) for y in members(n, b)})


def allowed(n, kind, m, t):
    if not (1 <= m <= n and gcd(m, n) == 1 and 0 <= t < n):
        return False
    every_turn, flips, every_factor = kind % 2 == 1, kind // 2 % 2 == 1, kind // 4 == 1
    return (every_turn or t == 0) and (every_factor or m == 1 or (flips and m == n - 1))


def maps(n, kind):
    return [(m, t) for m in range(n + 1) for t in range(n + 1) if allowed(n, kind, m, t)]


def mapped(n, m, t, a):
    return number_of({(m * x + t) % n for x in members(n, a)})


def map_of(n, kind, a, b):
    """The first map, or None."""
    return min([pair for pair in maps(n, kind) if mapped(n, *pair, a) == b], default=None)


def alike(n, kind, a):
    """Each set that is alike a, with its first map."""
    found = {}
    for m, t in reversed(maps(n, kind)):
        found[mapped(n, m, t, a)] = (m, t)
    return found


def period(n, a):
    return min(t for t in range(1, n + 1) if turned(n, t, a) == a)


def counts(n, a, b):
    return [len([1 for x in members(n, a) if (x + d) % n in members(n, b)]) for d in range(n)]


def twins(n, a, b):
    if map_of(n, 3, a, b) is not None:
        return 2
    return 1 if counts(n, a, a) == counts(n, b, b) else 0


def twin_rows(n):
    """For each set of n its least twin, or None."""
    same = {}
    for a in range(2 ** n):
        same.setdefault(tuple(counts(n, a, a)), []).append(a)
    rows = {}
    for group in same.values():
        for a in group:
            rows[a] = min(set(group) - set(alike(n, 3, a)), default=None)
    return rows


def most_often(n, a):
    """How often the distance from 1 to n - 1 that comes most often comes."""
    return max(counts(n, a, a)[1:], default=0)


def tiles(n, a, b):
    ways = Counter((x + y) % n for x in members(n, a) for y in members(n, b))
    return 1 if all(ways[place] == 1 for place in range(n)) else 0


def mates(n, a):
    size = len(members(n, a))
    if size == 0 or n % size != 0:
        return []
    picks = combinations(range(n), n // size)
    return sorted(b for b in map(number_of, picks) if tiles(n, a, b) == 1)


def even(n, k, r):
    return number_of({floor(Fraction(n * i + r, k)) for i in range(k)})


def spans(n, i, a):
    places = sorted(members(n, a))
    size = len(places)
    further = {j: places[j % size] + n * (j // size) for j in range(size + i)}
    return sorted({further[j + i] - further[j] for j in range(size)})


def level(n, a):
    rows = [spans(n, i, a) for i in range(1, len(members(n, a)))]
    if all(len(row) == 1 or (len(row) == 2 and row[1] == row[0] + 1) for row in rows):
        return 2
    return 1 if all(len(row) in (1, 2) for row in rows) else 0


def divided(weights, by):
    """Quotient and remainder of polynomials, the lowest power first; by's highest weight is 1."""
    rest = list(weights)
    quotient = [0] * max(len(rest) - len(by) + 1, 0)
    for shift in reversed(range(len(quotient))):
        quotient[shift] = rest[shift + len(by) - 1]
        for place, weight in enumerate(by):
            rest[shift + place] -= quotient[shift] * weight
    return quotient, rest


@cache
def least_polynomial(order):
    """The polynomial of lowest power that is 0 at the direction of 1 part of order: the cyclotomic one."""
    result = [-1] + [0] * (order - 1) + [1]
    for part in range(1, order):
        if order % part == 0:
            result, rest = divided(result, least_polynomial(part))
            assert not any(rest)
    return result


def cancels(n, d, weights):
    """The directions d x are the powers of one; which one of its order makes no difference to what is 0."""
    order = n // gcd(n, d)
    powers = [0] * order
    for x, weight in enumerate(weights):
        powers[x % order] += weight
    return 0 if any(divided(powers, least_polynomial(order))[1]) else 1


def silent(n, a):
    weights = [1 if x in members(n, a) else 0 for x in range(n)]
    return [d for d in range(n) if cancels(n, d, weights) == 1]


def classes(n, k, kind):
    sets = sorted(number_of(places) for places in combinations(range(n), k))
    return [a for a in sets if all(mapped(n, m, t, a) >= a for m, t in maps(n, kind))]


def way(n, x, y):
    return min(abs(x - y), n - abs(x - y))


def move(n, a, b):
    """The least sum and the first row that has it, of all rows."""
    starts = sorted(members(n, a))
    rows = permutations(sorted(members(n, b)))
    return min((sum(way(n, x, y) for x, y in zip(starts, row, strict=True)), list(row)) for row in rows)


def check_one_set_refusals(case, call, most):
    """call(n, a) refuses a wrong wheel, whatever the set, and on wheels up to most any bit from n on."""
    for n in WHEELS_REFUSED:
        for a in (0, 1, 5, TOP):
            case.assertEqual([-1], call(n, a), (n, a))
    for n in range(1, most + 1):
        for a in (2 ** n, 2 ** n + 1, 2 ** 63, TOP):
            case.assertEqual([-1], call(n, a), (n, a))


def check_repeatable(case, call, rows):
    """Answers are lists of plain ints; what is handed in stays; changed answers and other calls leave no trace."""
    kept = deepcopy(rows)
    firsts = []
    for row in rows:
        answer = call(*row)
        case.assertIs(list, type(answer))
        for value in answer:
            case.assertIs(int, type(value))
        firsts.append(list(answer))
        answer[0] = 98
        answer.append(99)
    case.assertEqual(firsts, [call(*row) for row in rows])
    case.assertEqual(firsts[::-1], [call(*row) for row in rows[::-1]])
    case.assertEqual(kept, rows)
