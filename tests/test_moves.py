"""Promises 1 to 4: turned, flipped, scaled, sum_of."""

import unittest

import plain
from plain import T_HIGH, T_LOW, TOP, WHEELS_REFUSED, full, number_of, some_sets
from wheelsets.desk import flipped, scaled, sum_of, turned

TURNS = (0, 1, 2, 5, -1, -7, 63, 64, 65, 1000, -1000, 10 ** 18 + 7, T_LOW, T_LOW + 1, T_HIGH - 1, T_HIGH)
FACTORS = (0, 1, 2, 3, 4, 6, 31, 32, 63, 64, 65, 10 ** 18 + 7, 2 ** 63, TOP - 1, TOP)
CHORD = number_of({0, 4, 7})


class Turned(unittest.TestCase):
    def test_ordinary(self):
        self.assertEqual([0, number_of({3, 7, 10})], turned(12, 3, CHORD))
        self.assertEqual([0, number_of({7, 11, 2})], turned(12, 7, CHORD))
        self.assertEqual([0, CHORD], turned(12, 0, CHORD))

    def test_turns_below_none_and_far_round(self):
        self.assertEqual([0, number_of({11, 3, 6})], turned(12, -1, CHORD))
        self.assertEqual([0, number_of({11, 3, 6})], turned(12, 12 * 10 ** 17 - 1, CHORD))
        self.assertEqual([0, 2 ** 4], turned(12, T_LOW, 1))
        self.assertEqual([0, 2 ** 7], turned(12, T_HIGH, 1))

    def test_edges(self):
        self.assertEqual([0, 0], turned(1, T_HIGH, 0))
        self.assertEqual([0, 1], turned(1, T_LOW, 1))
        self.assertEqual([0, 1], turned(64, 1, 2 ** 63))
        self.assertEqual([0, 2 ** 63], turned(64, -1, 1))
        for n in range(1, 65):
            for t in TURNS:
                self.assertEqual([0, 0], turned(n, t, 0))
                self.assertEqual([0, full(n)], turned(n, t, full(n)))

    def test_every_wheel(self):
        for n in range(1, 65):
            for a in some_sets(n):
                for t in TURNS:
                    self.assertEqual([0, plain.turned(n, t, a)], turned(n, t, a), (n, t, a))

    def test_refusals(self):
        for t in TURNS:
            plain.check_one_set_refusals(self, lambda n, a: turned(n, t, a), 63)

    def test_repeatable(self):
        rows = [(12, 3, CHORD), (12, T_LOW, CHORD), (64, T_HIGH, TOP), (0, 1, 1), (65, 1, 1), (3, 1, 8)]
        plain.check_repeatable(self, turned, rows)


class Flipped(unittest.TestCase):
    def test_ordinary(self):
        self.assertEqual([0, number_of({0, 8, 5})], flipped(12, 0, CHORD))
        self.assertEqual([0, number_of({7, 3, 0})], flipped(12, 7, CHORD))

    def test_turns_below_none_and_far_round(self):
        self.assertEqual([0, number_of({11, 7, 4})], flipped(12, -1, CHORD))
        self.assertEqual([0, number_of({11, 7, 4})], flipped(12, 12 * 10 ** 17 - 1, CHORD))
        self.assertEqual([0, 2 ** 3], flipped(12, T_LOW, 2))
        self.assertEqual([0, 2 ** 6], flipped(12, T_HIGH, 2))

    def test_edges(self):
        self.assertEqual([0, 0], flipped(1, T_HIGH, 0))
        self.assertEqual([0, 1], flipped(1, T_LOW, 1))
        self.assertEqual([0, 2], flipped(64, 0, 2 ** 63))
        self.assertEqual([0, 2 ** 63], flipped(64, -1, 1))
        for n in range(1, 65):
            for t in TURNS:
                self.assertEqual([0, 0], flipped(n, t, 0))
                self.assertEqual([0, full(n)], flipped(n, t, full(n)))

    def test_every_wheel(self):
        for n in range(1, 65):
            for a in some_sets(n):
                for t in TURNS:
                    self.assertEqual([0, plain.flipped(n, t, a)], flipped(n, t, a), (n, t, a))

    def test_refusals(self):
        for t in TURNS:
            plain.check_one_set_refusals(self, lambda n, a: flipped(n, t, a), 63)

    def test_repeatable(self):
        rows = [(12, 3, CHORD), (12, T_LOW, CHORD), (64, T_HIGH, TOP), (0, 1, 1), (65, 1, 1), (3, 1, 8)]
        plain.check_repeatable(self, flipped, rows)


class Scaled(unittest.TestCase):
    def test_ordinary(self):
        self.assertEqual([0, number_of({0, 8, 11})], scaled(12, 5, CHORD))
        self.assertEqual([0, CHORD], scaled(12, 1, CHORD))

    def test_two_places_come_to_one(self):
        self.assertEqual([0, number_of({0, 9})], scaled(12, 3, CHORD))
        self.assertEqual([0, number_of({0, 6})], scaled(12, 6, number_of({0, 1, 2, 4})))
        self.assertEqual([0, number_of(range(0, 64, 2))], scaled(64, 2, TOP))

    def test_factor_none_and_above_n(self):
        self.assertEqual([0, 1], scaled(12, 0, CHORD))
        self.assertEqual([0, 1], scaled(12, 12, CHORD))
        self.assertEqual([0, 0], scaled(12, 0, 0))
        self.assertEqual([0, number_of({0, 8, 11})], scaled(12, 17, CHORD))
        self.assertEqual([0, 2 ** 3], scaled(12, TOP, 2))

    def test_edges(self):
        self.assertEqual([0, 0], scaled(1, TOP, 0))
        self.assertEqual([0, 1], scaled(1, TOP, 1))
        self.assertEqual([0, 2], scaled(64, TOP, 2 ** 63))
        self.assertEqual([0, TOP], scaled(64, TOP, TOP))

    def test_every_wheel(self):
        for n in range(1, 65):
            for a in some_sets(n):
                for m in FACTORS:
                    self.assertEqual([0, plain.scaled(n, m, a)], scaled(n, m, a), (n, m, a))

    def test_refusals(self):
        for m in FACTORS:
            plain.check_one_set_refusals(self, lambda n, a: scaled(n, m, a), 63)

    def test_repeatable(self):
        rows = [(12, 3, CHORD), (12, 0, CHORD), (64, TOP, TOP), (0, 1, 1), (65, 1, 1), (3, 1, 8)]
        plain.check_repeatable(self, scaled, rows)


class SumOf(unittest.TestCase):
    def test_ordinary(self):
        self.assertEqual([0, number_of({0, 1, 4, 5, 7, 8})], sum_of(12, CHORD, number_of({0, 1})))
        self.assertEqual([0, number_of({2, 3})], sum_of(5, number_of({3, 4}), number_of({4})))
        self.assertEqual([0, number_of({0, 1, 2})], sum_of(7, number_of({0, 1}), number_of({0, 1})))

    def test_edges(self):
        self.assertEqual([0, 0], sum_of(1, 0, 0))
        self.assertEqual([0, 1], sum_of(1, 1, 1))
        self.assertEqual([0, 2 ** 62], sum_of(64, 2 ** 63, 2 ** 63))
        for n in range(1, 65):
            self.assertEqual([0, 0], sum_of(n, 0, full(n)))
            self.assertEqual([0, 0], sum_of(n, full(n), 0))
            self.assertEqual([0, full(n)], sum_of(n, full(n), full(n)))
            self.assertEqual([0, full(n)], sum_of(n, full(n), 2 ** (n - 1)))

    def test_every_pair_on_small_wheels(self):
        for n in range(1, 6):
            for a in range(2 ** n):
                for b in range(2 ** n):
                    self.assertEqual([0, plain.sum_of(n, a, b)], sum_of(n, a, b), (n, a, b))

    def test_every_wheel(self):
        for n in range(1, 65):
            for a in some_sets(n):
                for b in some_sets(n):
                    self.assertEqual([0, plain.sum_of(n, a, b)], sum_of(n, a, b), (n, a, b))

    def test_refusals(self):
        plain.check_one_set_refusals(self, lambda n, a: sum_of(n, a, 1), 63)
        plain.check_one_set_refusals(self, lambda n, a: sum_of(n, 1, a), 63)
        plain.check_one_set_refusals(self, lambda n, a: sum_of(n, a, 0), 63)
        plain.check_one_set_refusals(self, lambda n, a: sum_of(n, 0, a), 63)

    def test_repeatable(self):
        rows = [(12, CHORD, 3), (12, 0, CHORD), (64, TOP, TOP), (0, 1, 1), (65, 1, 1), (3, 8, 1), (3, 1, 8)]
        plain.check_repeatable(self, sum_of, rows)


if __name__ == "__main__":
    unittest.main()
