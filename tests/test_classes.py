"""Promises 20 to 23: count, kth, number, classes.

No wheel of 13 to 64 places is handed in to the last three.
"""

import unittest
from collections import Counter
from itertools import combinations
from math import comb, gcd

import plain
from plain import TOP, WHEELS_REFUSED, full, number_of, some_sets
from wheelsets.desk import classes, count, kth, least, number

KINDS_REFUSED = (8, 9, 15, 16, 64, 2 ** 32, 2 ** 63, TOP)


def coprime_up_to(n):
    return len([m for m in range(1, n + 1) if gcd(m, n) == 1])


def divisors(n):
    return [part for part in range(1, n + 1) if n % part == 0]


def by_turns(n, k):
    """The number of necklaces, by its formula."""
    return sum(coprime_up_to(part) * comb(n // part, k // part) for part in divisors(gcd(n, k) or n)) // n


def orbits(n, k, kind):
    """How many classes there are, each found by all that is alike one of its sets."""
    seen = set()
    found = 0
    maps = plain.maps(n, kind)
    for places in combinations(range(n), k):
        if frozenset(places) not in seen:
            found += 1
            seen.update(frozenset((m * x + t) % n for x in places) for m, t in maps)
    return found


def how_many_stay(n, m, t):
    """How many places x are m x + t."""
    common = gcd(m - 1, n)
    return common if t % common == 0 else 0


def rounds(n, m, t):
    """Pairs of a length and how many rounds of that length the map has, by the places that stay after as many steps."""
    found = []
    factor, turn, seen, length = m, t, 0, 1
    while seen < n:
        shorter = sum(part * many for part, many in found if length % part == 0)
        found.append((length, (how_many_stay(n, factor, turn) - shorter) // length))
        seen += length * found[-1][1]
        factor, turn, length = factor * m % n, (turn * m + t) % n, length + 1
    return [(part, many) for part, many in found if many]


def by_places_that_stay(n, kind):
    """How many classes there are, for each size."""
    shapes = Counter(tuple(rounds(n, m, t)) for m, t in plain.maps(n, kind))
    total = [0] * (n + 1)
    for shape, times in shapes.items():
        sizes = {0: times}
        for part, many in shape:
            following = Counter()
            for size, ways in sizes.items():
                for taken in range(many + 1):
                    following[size + part * taken] += ways * comb(many, taken)
            sizes = following
        for size, ways in sizes.items():
            total[size] += ways
    return [ways // sum(shapes.values()) for ways in total]


class Count(unittest.TestCase):
    def test_ordinary(self):
        self.assertEqual([0, 10], count(5, 2, 0))
        self.assertEqual([0, 2], count(5, 2, 1))
        self.assertEqual([0, 6], count(5, 2, 2))
        self.assertEqual([0, 19], count(12, 3, 1))
        self.assertEqual([0, 12], count(12, 3, 3))
        self.assertEqual([0, 9], count(12, 3, 5))
        self.assertEqual([0, 80], count(12, 6, 1))
        self.assertEqual([0, 50], count(12, 6, 3))
        self.assertEqual([0, 34], count(12, 6, 7))

    def test_all_sizes_together(self):
        for kind, told in ((0, 4096), (1, 352), (3, 224), (5, 158), (7, 158)):
            self.assertEqual(told, sum(count(12, k, kind)[1] for k in range(13)), kind)

    def test_against_the_classes_told_one_after_another(self):
        for n in range(1, 10):
            for k in range(n + 1):
                for kind in range(8):
                    told = len(plain.classes(n, k, kind))
                    self.assertEqual([0, told], count(n, k, kind), (n, k, kind))

    def test_against_the_classes_of_wider_wheels(self):
        for n, k in ((10, 5), (11, 4), (12, 4), (12, 6), (15, 4), (16, 4)):
            for kind in range(8):
                self.assertEqual([0, orbits(n, k, kind)], count(n, k, kind), (n, k, kind))

    def test_three_places_on_the_widest_wheels(self):
        for n in (60, 61, 63, 64):
            for kind in (3, 4, 5, 6, 7):
                self.assertEqual([0, orbits(n, 3, kind)], count(n, 3, kind), (n, kind))

    def test_sizes_0_and_n(self):
        for n in list(range(1, 33)) + [48, 61, 63, 64]:
            for kind in range(8):
                self.assertEqual([0, 1], count(n, 0, kind), (n, kind))
                self.assertEqual([0, 1], count(n, n, kind), (n, kind))

    def test_size_1(self):
        for n in range(1, 65):
            told = [n, 1, n // 2 + 1, 1, len(divisors(n)), 1, len(divisors(n)), 1]
            self.assertEqual([[0, number] for number in told], [count(n, 1, kind) for kind in range(8)], n)

    def test_size_2(self):
        for n in range(2, 65):
            # By turns and factors the divisor that the difference has in common with n tells the class.
            told = [[0, n // 2], [0, n // 2], [0, len(divisors(n)) - 1], [0, len(divisors(n)) - 1]]
            self.assertEqual(told, [count(n, 2, kind) for kind in (1, 3, 5, 7)], n)

    def test_kind_0_is_every_set(self):
        for n in range(1, 65):
            for k in range(n + 1):
                self.assertEqual([0, comb(n, k)], count(n, k, 0), (n, k))

    def test_turns_by_the_formula(self):
        for n in range(1, 65):
            for k in range(n + 1):
                self.assertEqual([0, by_turns(n, k)], count(n, k, 1), (n, k))

    def test_flips_by_the_formula(self):
        for n in range(1, 65):
            for k in range(n + 1):
                alone = 1 if n % 2 == 1 else 2
                kept = sum(comb(alone, one) * comb((n - alone) // 2, (k - one) // 2)
                           for one in range(min(alone, k) + 1) if (k - one) % 2 == 0)
                self.assertEqual([0, (comb(n, k) + kept) // 2], count(n, k, 2), (n, k))

    def test_the_rest_of_the_wheel_has_as_many(self):
        for n in (31, 60, 64):
            for k in (1, 7, n // 2):
                for kind in range(8):
                    self.assertEqual(count(n, k, kind), count(n, n - k, kind), (n, k, kind))

    def test_the_widest_wheel(self):
        self.assertEqual([0, 1832624140942590534], count(64, 32, 0))
        self.assertEqual([0, 28634752211620266], count(64, 32, 1))
        self.assertEqual([0, (28634752211620266 + comb(32, 16)) // 2], count(64, 32, 3))

    def test_wide_wheels_by_the_places_that_stay(self):
        for n in (36, 60, 61, 63, 64):
            for kind in (3, 4, 5, 6, 7):
                told = by_places_that_stay(n, kind)
                for k in (4, 11, n // 2):
                    self.assertEqual([0, told[k]], count(n, k, kind), (n, k, kind))

    def test_k_above_n(self):
        for n in range(1, 65):
            for kind in range(8):
                for k in (n + 1, n + 2, 65, 2 ** 32, 2 ** 63, TOP):
                    self.assertEqual([-2], count(n, k, kind), (n, k, kind))

    def test_wheels_refused(self):
        for n in WHEELS_REFUSED:
            for k in (0, 1, n, TOP):
                for kind in (0, 7, 8, TOP):
                    self.assertEqual([-1], count(n, k, kind), (n, k, kind))

    def test_kinds_refused_before_sizes(self):
        for n in (1, 2, 12, 64):
            for kind in KINDS_REFUSED:
                for k in (0, 1, n, n + 1, 65, TOP):
                    self.assertEqual([-1], count(n, k, kind), (n, k, kind))

    def test_repeatable(self):
        rows = [(12, 3, 7), (64, 32, 5), (5, 6, 1), (0, 0, 0), (65, 1, 1), (5, 6, 8), (5, TOP, TOP)]
        plain.check_repeatable(self, count, rows)


class Kth(unittest.TestCase):
    def test_ordinary(self):
        self.assertEqual([0, 0b0101], kth(4, 2, 1, 1))
        self.assertEqual([0, 0b0110], kth(4, 2, 0, 2))
        self.assertEqual([0, 0b1100], kth(4, 2, 0, 5))
        self.assertEqual([0, number_of({0, 4, 8})], kth(12, 3, 3, 11))
        self.assertEqual([0, number_of({0, 2, 4, 6, 8, 10})], kth(12, 6, 7, 33))

    def test_first_and_last_and_one_above(self):
        for n in (1, 2, 3, 8, 12):
            for k in (0, 1, 5, 6, 12) if n == 12 else range(n + 1):
                for kind in range(8):
                    told = plain.classes(n, k, kind)
                    self.assertEqual([0, told[0]], kth(n, k, kind, 0), (n, k, kind))
                    self.assertEqual([0, told[-1]], kth(n, k, kind, len(told) - 1), (n, k, kind))
                    self.assertEqual([-2], kth(n, k, kind, len(told)), (n, k, kind))

    def test_far_above(self):
        for n in (1, 2, 5, 12):
            for k in (0, 1, n // 2, n):
                for i in (2 ** n, 2 ** 32, 2 ** 63, TOP):
                    self.assertEqual([-2], kth(n, k, 1, i), (n, k, i))

    def test_sizes_0_and_n(self):
        for n in range(1, 13):
            for kind in range(8):
                self.assertEqual([0, 0], kth(n, 0, kind, 0))
                self.assertEqual([0, full(n)], kth(n, n, kind, 0))
                self.assertEqual([-2], kth(n, 0, kind, 1))
                self.assertEqual([-2], kth(n, n, kind, 1))

    def test_k_above_n(self):
        for n in range(1, 13):
            for k in (n + 1, n + 2, 64, 65, 2 ** 63, TOP):
                for i in (0, 1, TOP):
                    self.assertEqual([-2], kth(n, k, 3, i), (n, k, i))

    def test_every_one(self):
        for n in range(1, 8):
            for k in range(n + 1):
                for kind in range(8):
                    for i, told in enumerate(plain.classes(n, k, kind)):
                        self.assertEqual([0, told], kth(n, k, kind, i), (n, k, kind, i))

    def test_wheels_refused(self):
        for n in WHEELS_REFUSED:
            for k in (0, 1, TOP):
                for kind in (0, 7, 8, TOP):
                    for i in (0, TOP):
                        self.assertEqual([-1], kth(n, k, kind, i), (n, k, kind, i))

    def test_kinds_refused_before_the_rest(self):
        for n in (1, 2, 12):
            for kind in KINDS_REFUSED:
                for k in (0, 1, n, n + 1, TOP):
                    for i in (0, 1, TOP):
                        self.assertEqual([-1], kth(n, k, kind, i), (n, k, kind, i))

    def test_repeatable(self):
        rows = [(12, 3, 3, 11), (12, 3, 3, 12), (4, 2, 1, 1), (4, 5, 1, 0), (0, 0, 0, 0), (65, 1, 1, 0),
                (5, 2, 8, 0), (5, TOP, TOP, TOP)]
        plain.check_repeatable(self, kth, rows)


class Number(unittest.TestCase):
    def test_their_own_least(self):
        self.assertEqual([0, 0], number(12, 3, number_of({0, 1, 2})))
        self.assertEqual([0, 11], number(12, 3, number_of({0, 4, 8})))
        self.assertEqual([0, 1], number(4, 1, 0b0101))
        self.assertEqual([0, 5], number(4, 0, 0b1100))

    def test_others(self):
        self.assertEqual([0, 0], number(12, 3, number_of({3, 4, 5})))
        self.assertEqual([0, 11], number(12, 3, number_of({3, 7, 11})))
        self.assertEqual([0, 1], number(4, 1, 0b1010))
        self.assertEqual([0, 0], number(4, 1, 0b1001))
        major, minor = number_of({0, 4, 7}), number_of({0, 3, 7})
        self.assertEqual(number(12, 3, minor), number(12, 3, major))
        self.assertNotEqual(number(12, 1, minor), number(12, 1, major))

    def test_sizes_0_and_n(self):
        for n in range(1, 13):
            for kind in range(8):
                self.assertEqual([0, 0], number(n, kind, 0))
                self.assertEqual([0, 0], number(n, kind, full(n)))

    def test_the_last_place_alone(self):
        for n in range(1, 13):
            self.assertEqual([0, n - 1], number(n, 0, 2 ** (n - 1)))
            self.assertEqual([0, 0], number(n, 1, 2 ** (n - 1)))
            self.assertEqual([0, 0 if n == 1 else 1], number(n, 2, 2 ** (n - 1)))

    def test_against_the_words(self):
        for n in range(1, 9):
            for kind in range(8):
                told = {}
                for k in range(n + 1):
                    for i, one in enumerate(plain.classes(n, k, kind)):
                        told.update(dict.fromkeys(plain.alike(n, kind, one), i))
                for a in range(2 ** n) if n < 8 else some_sets(n):
                    self.assertEqual([0, told[a]], number(n, kind, a), (n, kind, a))

    def test_widest_wheel(self):
        picked = ({11}, {0, 4, 7}, {1, 2, 5, 7, 11}, {2, 5, 6, 9, 10, 11}, {1, 3, 4, 5, 6, 7, 9, 10, 11})
        for a in map(number_of, picked):
            for kind in range(8):
                told = plain.classes(12, len(plain.members(12, a)), kind).index(min(plain.alike(12, kind, a)))
                self.assertEqual([0, told], number(12, kind, a), (kind, a))

    def test_set_and_wheel_refused(self):
        for kind in (0, 1, 7, 8, TOP):
            plain.check_one_set_refusals(self, lambda n, a: number(n, kind, a), 12)

    def test_kinds_refused(self):
        for n in (1, 2, 12):
            for kind in KINDS_REFUSED:
                for a in (0, 1, full(n), 2 ** n):
                    self.assertEqual([-1], number(n, kind, a), (n, kind, a))

    def test_repeatable(self):
        rows = [(12, 3, 145), (12, 0, 145), (4, 1, 10), (0, 0, 0), (65, 1, 1), (3, 1, 8), (3, 8, 1)]
        plain.check_repeatable(self, number, rows)


class Classes(unittest.TestCase):
    def test_ordinary(self):
        self.assertEqual([0, 6, 3, 5, 6, 9, 10, 12], classes(4, 2, 0))
        self.assertEqual([0, 2, 3, 5], classes(4, 2, 1))
        self.assertEqual([0, 4, 3, 5, 6, 10], classes(4, 2, 2))
        self.assertEqual([0, 3, 1, 2, 4], classes(4, 1, 2))
        self.assertEqual([0, 3, 1, 2, 4], classes(4, 1, 4))
        self.assertEqual([0, 2, 7, 11], classes(7, 3, 5))

    def test_trichords(self):
        told = [{0, 1, 2}, {0, 1, 3}, {0, 1, 4}, {0, 2, 4}, {0, 1, 5}, {0, 2, 5}, {0, 1, 6}, {0, 2, 6}, {0, 3, 6},
                {0, 2, 7}, {0, 3, 7}, {0, 4, 8}]
        self.assertEqual([0, 12] + sorted(number_of(places) for places in told), classes(12, 3, 3))

    def test_sizes_0_and_n(self):
        for n in range(1, 13):
            for kind in range(8):
                self.assertEqual([0, 1, 0], classes(n, 0, kind))
                self.assertEqual([0, 1, full(n)], classes(n, n, kind))

    def test_k_above_n_is_a_row_of_none(self):
        for n in range(1, 13):
            for k in (n + 1, n + 2, 64, 65, 2 ** 63, TOP):
                for kind in range(8):
                    self.assertEqual([0, 0], classes(n, k, kind), (n, k, kind))

    def test_against_the_words(self):
        for n in range(1, 10):
            for k in range(n + 1):
                for kind in range(8):
                    told = plain.classes(n, k, kind)
                    self.assertEqual([0, len(told)] + told, classes(n, k, kind), (n, k, kind))

    def test_widest_wheel(self):
        for k in (1, 2, 5, 6, 7, 11):
            for kind in range(8):
                told = plain.classes(12, k, kind)
                self.assertEqual([0, len(told)] + told, classes(12, k, kind), (k, kind))
                self.assertEqual(sorted(set(told)), told)

    def test_wheels_refused(self):
        for n in WHEELS_REFUSED:
            for k in (0, 1, n, TOP):
                for kind in (0, 7, 8, TOP):
                    self.assertEqual([-1], classes(n, k, kind), (n, k, kind))

    def test_kinds_refused(self):
        for n in (1, 2, 12):
            for kind in KINDS_REFUSED:
                for k in (0, 1, n, n + 1, TOP):
                    self.assertEqual([-1], classes(n, k, kind), (n, k, kind))

    def test_repeatable(self):
        rows = [(12, 3, 3), (4, 2, 0), (4, 5, 0), (0, 0, 0), (65, 1, 1), (5, 2, 8), (5, TOP, TOP)]
        plain.check_repeatable(self, classes, rows)


class Together(unittest.TestCase):
    """Counts, numbers and k-ths are of the classes as they're told one after another."""

    def test_count_is_how_many_classes_there_are(self):
        for n in range(1, 13):
            for k in range(n + 1):
                for kind in range(8):
                    told = classes(n, k, kind)
                    self.assertEqual([0, told[1]], count(n, k, kind), (n, k, kind))
                    self.assertEqual(told[1], len(told[2:]))

    def test_kth_of_the_number_is_the_least(self):
        for n in (1, 2, 3, 4, 5, 6, 7):
            for kind in range(8):
                for a in range(2 ** n):
                    self.check_one(n, kind, a)
        for kind in range(8):
            for a in some_sets(12):
                self.check_one(12, kind, a)

    def check_one(self, n, kind, a):
        size = len(plain.members(n, a))
        told = kth(n, size, kind, number(n, kind, a)[1])
        self.assertEqual(least(n, kind, a)[:2], told, (n, kind, a))

    def test_number_of_the_kth_is_i(self):
        for n in (5, 8):
            for k in range(n + 1):
                for kind in range(8):
                    for i in range(count(n, k, kind)[1]):
                        self.assertEqual([0, i], number(n, kind, kth(n, k, kind, i)[1]), (n, k, kind, i))


if __name__ == "__main__":
    unittest.main()
