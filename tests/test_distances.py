"""Promises 9 to 12: counts, twins, twin, rule.

No wheel of 33 to 64 places is handed in to twins, none of 13 to 64 to twin and rule.
"""

import unittest

import plain
from plain import TOP, WHEELS_REFUSED, full, number_of, some_sets
from wheelsets.desk import counts, rule, twin, twins

# In both every distance from 1 to 11 comes once, and 6 twice.
FIRST = number_of({0, 1, 4, 6})
SECOND = number_of({0, 1, 3, 7})


class Counts(unittest.TestCase):
    def test_ordinary(self):
        self.assertEqual([0, 12, 3, 0, 0, 1, 1, 1, 0, 1, 1, 1, 0, 0], counts(12, 145, 145))
        self.assertEqual([0, 7, 3, 1, 1, 1, 1, 1, 1], counts(7, 11, 11))

    def test_two_sets_in_both_orders(self):
        self.assertEqual([0, 5, 1, 1, 1, 0, 1], counts(5, number_of({0, 1}), number_of({0, 2})))
        self.assertEqual([0, 5, 1, 1, 0, 1, 1], counts(5, number_of({0, 2}), number_of({0, 1})))
        self.assertEqual([0, 4, 0, 1, 1, 0], counts(4, number_of({0}), number_of({1, 2})))
        self.assertEqual([0, 4, 0, 0, 1, 1], counts(4, number_of({1, 2}), number_of({0})))

    def test_distance_half_round(self):
        self.assertEqual([0, 6, 2, 0, 0, 2, 0, 0], counts(6, number_of({0, 3}), number_of({0, 3})))

    def test_edges(self):
        self.assertEqual([0, 1, 0], counts(1, 0, 0))
        self.assertEqual([0, 1, 0], counts(1, 1, 0))
        self.assertEqual([0, 1, 1], counts(1, 1, 1))
        self.assertEqual([0, 2, 0, 1], counts(2, 1, 2))
        self.assertEqual([0, 2, 2, 2], counts(2, 3, 3))
        self.assertEqual([0, 64] + [0] * 63 + [1], counts(64, 1, 2 ** 63))
        self.assertEqual([0, 64, 0, 1] + [0] * 62, counts(64, 2 ** 63, 1))
        for n in range(1, 65):
            self.assertEqual([0, n] + [0] * n, counts(n, 0, 0))
            self.assertEqual([0, n] + [0] * n, counts(n, 0, full(n)))
            self.assertEqual([0, n] + [0] * n, counts(n, full(n), 0))
            self.assertEqual([0, n] + [1] * n, counts(n, full(n), 1))
            self.assertEqual([0, n] + [n] * n, counts(n, full(n), full(n)))

    def test_against_the_words(self):
        for n in range(1, 6):
            for a in range(2 ** n):
                for b in range(2 ** n):
                    self.assertEqual([0, n] + plain.counts(n, a, b), counts(n, a, b), (n, a, b))
        for n in (9, 12, 31, 32, 33, 63, 64):
            for a in some_sets(n):
                for b in some_sets(n)[::3]:
                    self.assertEqual([0, n] + plain.counts(n, a, b), counts(n, a, b), (n, a, b))

    def test_all_counts_are_the_product_of_the_sizes(self):
        for n in range(1, 65):
            sets = some_sets(n)
            for a, b in zip(sets, sets[1:] + sets[:1]):
                product = len(plain.members(n, a)) * len(plain.members(n, b))
                self.assertEqual(product, sum(counts(n, a, b)[2:]), (n, a, b))

    def test_the_rest_of_the_wheel_differs_by_one_number(self):
        for n in range(1, 65):
            for a in some_sets(n):
                rest = full(n) - a
                pairs = zip(counts(n, rest, rest)[2:], counts(n, a, a)[2:])
                self.assertEqual({n - 2 * len(plain.members(n, a))}, {x - y for x, y in pairs}, (n, a))

    def test_refusals(self):
        plain.check_one_set_refusals(self, lambda n, a: counts(n, a, 1), 63)
        plain.check_one_set_refusals(self, lambda n, b: counts(n, 1, b), 63)

    def test_repeatable(self):
        rows = [(12, 145, 137), (12, 137, 145), (64, TOP, 5), (0, 1, 1), (65, 1, 1), (3, 8, 1), (3, 1, 8)]
        plain.check_repeatable(self, counts, rows)


class Twins(unittest.TestCase):
    def test_alike(self):
        self.assertEqual([0, 2], twins(12, FIRST, FIRST))
        self.assertEqual([0, 2], twins(12, FIRST, plain.turned(12, 5, FIRST)))
        self.assertEqual([0, 2], twins(12, FIRST, plain.flipped(12, 6, FIRST)))
        self.assertEqual([0, 2], twins(12, plain.flipped(12, 1, SECOND), SECOND))

    def test_twins(self):
        self.assertEqual([0, 1], twins(12, FIRST, SECOND))
        self.assertEqual([0, 1], twins(12, SECOND, FIRST))
        self.assertEqual([0, 1], twins(12, plain.turned(12, 7, FIRST), plain.flipped(12, 3, SECOND)))
        self.assertEqual([0, 1], twins(8, number_of({0, 1, 3, 4}), number_of({0, 1, 2, 5})))
        self.assertEqual([0, 1], twins(32, number_of({0, 4, 12, 16}), number_of({0, 4, 8, 20})))

    def test_neither(self):
        self.assertEqual([0, 0], twins(12, number_of({0, 1}), number_of({0, 2})))
        self.assertEqual([0, 0], twins(12, number_of({0, 1}), number_of({0, 5})))
        self.assertEqual([0, 0], twins(12, number_of({0, 1}), number_of({0, 1, 2})))
        self.assertEqual([0, 0], twins(32, 1, 3))

    def test_maps_by_other_factors_make_nothing_alike(self):
        self.assertEqual([0, 1], twins(12, FIRST, plain.scaled(12, 5, FIRST)))
        self.assertEqual([0, 0], twins(12, number_of({0, 1, 2}), number_of({0, 5, 10})))

    def test_edges(self):
        self.assertEqual([0, 2], twins(1, 1, 1))
        self.assertEqual([0, 2], twins(2, 1, 2))
        for n in range(1, 33):
            self.assertEqual([0, 2], twins(n, 0, 0))
            self.assertEqual([0, 2], twins(n, full(n), full(n)))
            self.assertEqual([0, 2], twins(n, 1, 2 ** (n - 1)))
            self.assertEqual([0, 0], twins(n, 0, full(n)))
            self.assertEqual([0, 0], twins(n, full(n), 0))

    def test_against_the_words(self):
        for n in range(1, 5):
            for a in range(2 ** n):
                for b in range(2 ** n):
                    self.assertEqual([0, plain.twins(n, a, b)], twins(n, a, b), (n, a, b))
        for n in (8, 12, 31, 32):
            for a in some_sets(n):
                for b in some_sets(n):
                    self.assertEqual([0, plain.twins(n, a, b)], twins(n, a, b), (n, a, b))
        for b in range(2 ** 8):
            self.assertEqual([0, plain.twins(8, 27, b)], twins(8, 27, b), b)

    def test_refusals(self):
        plain.check_one_set_refusals(self, lambda n, a: twins(n, a, 1), 32)
        plain.check_one_set_refusals(self, lambda n, b: twins(n, 1, b), 32)

    def test_repeatable(self):
        rows = [(12, FIRST, SECOND), (12, FIRST, FIRST), (32, 1, 3), (0, 1, 1), (65, 1, 1), (3, 8, 1), (3, 1, 8)]
        plain.check_repeatable(self, twins, rows)


class Twin(unittest.TestCase):
    def test_least_of_several(self):
        self.assertEqual([0, SECOND], twin(12, FIRST))
        self.assertEqual([0, FIRST], twin(12, SECOND))
        self.assertEqual([0, SECOND], twin(12, plain.turned(12, 5, FIRST)))
        self.assertEqual([0, FIRST], twin(12, plain.flipped(12, 9, SECOND)))
        self.assertEqual([0, 39], twin(8, 27))
        self.assertEqual([0, 27], twin(8, 39))

    def test_a_twin_below_the_set_and_above_it(self):
        self.assertEqual([0, 39], twin(8, 27))
        self.assertEqual([0, 27], twin(8, number_of({2, 5, 6, 7})))

    def test_none(self):
        self.assertEqual([-2], twin(12, 145))
        self.assertEqual([-2], twin(12, number_of({0, 1, 2})))
        self.assertEqual([-2], twin(7, 11))

    def test_edges(self):
        for n in range(1, 13):
            for a in (0, 1, 2 ** (n - 1), full(n)):
                self.assertEqual([-2], twin(n, a), (n, a))

    def test_against_the_words(self):
        for n in range(1, 11):
            rows = plain.twin_rows(n)
            for a in range(2 ** n) if n <= 8 else range(0, 2 ** n, 5):
                told = rows[a]
                self.assertEqual([-2] if told is None else [0, told], twin(n, a), (n, a))

    def test_widest_wheel(self):
        rows = plain.twin_rows(12)
        picked = [a for a in range(2 ** 12) if rows[a] is not None][::23] + list(range(0, 2 ** 12, 151))
        for a in picked:
            told = rows[a]
            self.assertEqual([-2] if told is None else [0, told], twin(12, a), a)

    def test_refusals(self):
        plain.check_one_set_refusals(self, twin, 12)

    def test_repeatable(self):
        plain.check_repeatable(self, twin, [(12, FIRST), (12, 145), (8, 39), (0, 1), (65, 1), (3, 8)])


class Rule(unittest.TestCase):
    def test_ordinary(self):
        self.assertEqual([0, number_of({0, 1, 3})], rule(7, 3, 1))
        self.assertEqual([0, number_of({0, 1, 3})], rule(12, 3, 1))
        self.assertEqual([0, number_of({0, 1, 2})], rule(12, 3, 2))
        self.assertEqual([0, number_of({0, 1, 2, 4})], rule(12, 4, 2))
        self.assertEqual([0, number_of({0, 1, 2, 3})], rule(12, 4, 3))

    def test_no_such_set(self):
        self.assertEqual([-2], rule(6, 3, 1))
        self.assertEqual([-2], rule(12, 4, 1))
        self.assertEqual([-2], rule(12, 2, 0))

    def test_half_round_comes_from_both_ends(self):
        self.assertEqual([-2], rule(2, 2, 1))
        self.assertEqual([0, 3], rule(2, 2, 2))

    def test_least_and_greatest_sizes(self):
        for n in range(1, 13):
            for most in (0, 1, n, TOP):
                self.assertEqual([0, 0], rule(n, 0, most))
                self.assertEqual([0, 1], rule(n, 1, most))
            for most in (n, n + 1, 2 ** 63, TOP):
                self.assertEqual([0, full(n)], rule(n, n, most))
            if n > 1:
                self.assertEqual([-2], rule(n, n, n - 1))
                self.assertEqual([-2], rule(n, 2, 0))

    def test_size_above_the_wheel(self):
        for n in (1, 2, 3, 12):
            for k in (n + 1, n + 2, 64, 65, 2 ** 32, 2 ** 63, TOP):
                for most in (0, 1, n, TOP):
                    self.assertEqual([-2], rule(n, k, most), (n, k, most))

    def test_most_far_above(self):
        for k in range(13):
            self.assertEqual([0, full(k)], rule(12, k, 2 ** 63))
            self.assertEqual([0, full(k)], rule(12, k, TOP))

    def test_against_the_words(self):
        for n in range(1, 13):
            rows = [(a, len(plain.members(n, a)), plain.most_often(n, a)) for a in range(2 ** n)]
            for k in range(n + 2):
                sized = [(a, often) for a, size, often in rows if size == k]
                for most in range(n + 2) if n < 12 else (0, 1, 2, 3, 5, 8, 11):
                    told = min([a for a, often in sized if often <= most], default=None)
                    self.assertEqual([-2] if told is None else [0, told], rule(n, k, most), (n, k, most))

    def test_refusals(self):
        for n in WHEELS_REFUSED:
            for k in (0, 1, 5, n, TOP):
                for most in (0, 1, TOP):
                    self.assertEqual([-1], rule(n, k, most), (n, k, most))

    def test_repeatable(self):
        rows = [(12, 4, 2), (12, 4, 1), (12, TOP, TOP), (12, 1, TOP), (0, 1, 1), (65, 1, 1), (1, 1, 0)]
        plain.check_repeatable(self, rule, rows)


if __name__ == "__main__":
    unittest.main()
