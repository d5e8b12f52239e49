"""Promises 13 to 16: tiles, mates, even, spans.

No wheel of 17 to 64 places is handed in to mates, none of 33 to 64 to spans.
"""

import unittest

import plain
from plain import TOP, WHEELS_REFUSED, full, number_of, some_sets
from wheelsets.desk import even, mates, spans, tiles

TRIAD = number_of({0, 4, 7})
SCALE = number_of({0, 2, 4, 5, 7, 9, 11})


class Tiles(unittest.TestCase):
    def test_each_place_in_one_way(self):
        self.assertEqual([0, 1], tiles(4, number_of({0, 1}), number_of({0, 2})))
        self.assertEqual([0, 1], tiles(12, number_of({0, 1, 2}), number_of({2, 5, 8, 11})))
        self.assertEqual([0, 1], tiles(8, number_of({0, 1, 4, 5}), number_of({0, 2})))
        self.assertEqual([0, 1], tiles(64, number_of(range(8)), number_of(range(0, 64, 8))))
        self.assertEqual([0, 1], tiles(64, number_of(range(5, 64, 8)), number_of(range(56, 64))))

    def test_a_place_in_two_ways(self):
        self.assertEqual([0, 0], tiles(3, number_of({0, 1}), number_of({0, 1})))
        self.assertEqual([0, 0], tiles(4, number_of({0, 1}), number_of({0, 1, 2})))
        self.assertEqual([0, 0], tiles(64, TOP, number_of({0, 63})))

    def test_a_place_in_no_way(self):
        self.assertEqual([0, 0], tiles(4, number_of({0, 1}), number_of({0})))
        self.assertEqual([0, 0], tiles(12, number_of({0, 1, 2}), number_of({0, 3, 6})))
        self.assertEqual([0, 0], tiles(64, TOP - 2 ** 63, 1))

    def test_sizes_that_fit_are_not_enough(self):
        self.assertEqual([0, 0], tiles(4, number_of({0, 1}), number_of({0, 1})))
        self.assertEqual([0, 0], tiles(8, number_of({0, 1, 4, 5}), number_of({0, 4})))
        self.assertEqual([0, 0], tiles(64, number_of(range(8)), number_of(range(8))))

    def test_edges(self):
        self.assertEqual([0, 1], tiles(1, 1, 1))
        self.assertEqual([0, 1], tiles(2, 2, 3))
        self.assertEqual([0, 0], tiles(2, 1, 2))
        for n in range(1, 65):
            self.assertEqual([0, 0], tiles(n, 0, 0))
            self.assertEqual([0, 0], tiles(n, 0, full(n)))
            self.assertEqual([0, 0], tiles(n, full(n), 0))
            self.assertEqual([0, 1], tiles(n, full(n), 2 ** (n - 1)))
            self.assertEqual([0, 1], tiles(n, 2 ** (n - 1), full(n)))
            self.assertEqual([0, 1 if n == 1 else 0], tiles(n, full(n), full(n)))

    def test_against_the_words(self):
        for n in range(1, 7):
            for a in range(2 ** n):
                for b in range(2 ** n):
                    self.assertEqual([0, plain.tiles(n, a, b)], tiles(n, a, b), (n, a, b))
        for n in (8, 12, 30, 32, 33, 63, 64):
            sets = some_sets(n) + [number_of(range(3)), number_of(range(0, n, 4))]
            for a in sets:
                for b in sets:
                    self.assertEqual([0, plain.tiles(n, a, b)], tiles(n, a, b), (n, a, b))

    def test_refusals(self):
        plain.check_one_set_refusals(self, lambda n, a: tiles(n, a, 1), 63)
        plain.check_one_set_refusals(self, lambda n, b: tiles(n, 1, b), 63)

    def test_repeatable(self):
        rows = [(4, 3, 5), (4, 3, 3), (64, TOP, 1), (0, 1, 1), (65, 1, 1), (3, 8, 1), (3, 1, 8)]
        plain.check_repeatable(self, tiles, rows)


class Mates(unittest.TestCase):
    def test_none(self):
        self.assertEqual([0, 0], mates(12, number_of({0, 1, 2, 3, 4})))
        self.assertEqual([0, 0], mates(6, number_of({0, 1, 3})))
        self.assertEqual([0, 0], mates(16, number_of({0, 1, 2})))

    def test_one(self):
        for n in range(1, 17):
            self.assertEqual([0, 1, full(n)], mates(n, 1))
            self.assertEqual([0, 1, full(n)], mates(n, 2 ** (n - 1)))

    def test_several(self):
        self.assertEqual([0, 3, 585, 1170, 2340], mates(12, number_of({0, 1, 2})))
        self.assertEqual([0, 4, 3, 6, 9, 12], mates(4, number_of({0, 2})))
        self.assertEqual([0, 2, 0x5555, 0xAAAA], mates(16, number_of({6, 7})))

    def test_many(self):
        told = mates(16, number_of({0, 8}))
        self.assertEqual([0, 256], told[:2])
        self.assertEqual(sorted(set(told[2:])), told[2:])
        self.assertEqual(256, len(told[2:]))
        self.assertEqual(plain.mates(16, number_of({0, 8})), told[2:])

    def test_edges(self):
        for n in range(1, 17):
            self.assertEqual([0, 0], mates(n, 0))
            self.assertEqual([0, n] + [2 ** x for x in range(n)], mates(n, full(n)))
        self.assertEqual([0, 2, 1, 2], mates(2, 3))

    def test_against_the_words(self):
        for n in range(1, 9):
            for a in range(2 ** n):
                told = [b for b in range(2 ** n) if plain.tiles(n, a, b) == 1] if n <= 5 else plain.mates(n, a)
                self.assertEqual([0, len(told)] + told, mates(n, a), (n, a))
        for n in (12, 15, 16):
            for a in some_sets(n) + [0b1111, 0b10001, 0b110011, number_of(range(0, n, 4))]:
                told = plain.mates(n, a)
                self.assertEqual([0, len(told)] + told, mates(n, a), (n, a))

    def test_mates_tile(self):
        for b in mates(12, number_of({0, 1, 6, 7}))[2:]:
            self.assertEqual([0, 1], tiles(12, number_of({0, 1, 6, 7}), b))
            self.assertIn(number_of({0, 1, 6, 7}), mates(12, b)[2:])

    def test_refusals(self):
        plain.check_one_set_refusals(self, mates, 16)

    def test_repeatable(self):
        plain.check_repeatable(self, mates, [(12, 7), (12, 31), (16, 257), (0, 1), (65, 1), (3, 8)])


class Even(unittest.TestCase):
    def test_ordinary(self):
        self.assertEqual([0, number_of({0, 2, 5})], even(8, 3, 0))
        self.assertEqual([0, number_of({2, 5, 7})], even(8, 3, 7))
        self.assertEqual([0, SCALE], even(12, 7, 5))
        self.assertEqual([0, number_of({0, 3, 6, 9, 12})], even(16, 5, 0))
        self.assertEqual([0, number_of(range(7, 64, 8))], even(64, 8, 63))

    def test_edges(self):
        self.assertEqual([0, 0], even(1, 0, 0))
        self.assertEqual([0, 1], even(1, 1, 0))
        self.assertEqual([0, 2], even(2, 1, 1))
        self.assertEqual([0, full(63)], even(64, 63, 0))
        self.assertEqual([0, TOP - 1], even(64, 63, 63))
        for n in range(1, 65):
            for r in range(n):
                self.assertEqual([0, 0], even(n, 0, r))
                self.assertEqual([0, 2 ** r], even(n, 1, r))
                self.assertEqual([0, full(n)], even(n, n, r))

    def test_against_the_words(self):
        for n in range(1, 65):
            wide = n > 12
            for k in (1, 2, 3, n // 2, n - 1, n) if wide else range(n + 1):
                for r in (0, 1, n // 2, n - 1) if wide else range(n):
                    self.assertEqual([0, plain.even(n, k, r)], even(n, k, r), (n, k, r))

    def test_the_size_is_k(self):
        for n in (12, 31, 64):
            for k in range(n + 1):
                self.assertEqual(k, len(plain.members(n, even(n, k, n - 1)[1])), (n, k))

    def test_wheels_refused(self):
        for n in WHEELS_REFUSED:
            for k in (0, 1, n, TOP):
                for r in (0, 1, n, TOP):
                    self.assertEqual([-1], even(n, k, r), (n, k, r))

    def test_size_refused(self):
        for n in range(1, 65):
            for k in (n + 1, n + 2, 65, 2 ** 32, 2 ** 63, TOP):
                for r in (0, n - 1):
                    self.assertEqual([-1], even(n, k, r), (n, k, r))

    def test_r_refused(self):
        for n in range(1, 65):
            for r in (n, n + 1, 65, 2 ** 32, 2 ** 63, TOP):
                for k in (0, 1, n, n + 1, TOP):
                    self.assertEqual([-1], even(n, k, r), (n, k, r))

    def test_repeatable(self):
        rows = [(12, 7, 5), (64, 63, 63), (5, 0, 4), (0, 0, 0), (65, 1, 1), (3, 4, 1), (3, 1, 3), (3, TOP, TOP)]
        plain.check_repeatable(self, even, rows)


class Spans(unittest.TestCase):
    def test_ordinary(self):
        self.assertEqual([0, 3, 3, 4, 5], spans(12, 1, TRIAD))
        self.assertEqual([0, 3, 7, 8, 9], spans(12, 2, TRIAD))
        self.assertEqual([0, 3, 1, 2, 9], spans(12, 1, number_of({3, 4, 6})))

    def test_the_same_number_is_told_once(self):
        self.assertEqual([0, 1, 4], spans(12, 1, number_of({1, 5, 9})))
        self.assertEqual([0, 1, 8], spans(12, 2, number_of({1, 5, 9})))
        self.assertEqual([0, 2, 1, 2], spans(12, 1, SCALE))
        self.assertEqual([0, 2, 5, 6], spans(12, 3, SCALE))
        self.assertEqual([0, 2, 10, 11], spans(12, 6, SCALE))
        self.assertEqual([0, 2, 1, 10], spans(12, 1, number_of({0, 1, 2})))

    def test_sizes_0_and_1_have_no_steps(self):
        for n in range(1, 33):
            for i in (0, 1, 2, n, 2 ** 63, TOP):
                for a in (0, 1, 2 ** (n - 1)):
                    self.assertEqual([-2], spans(n, i, a), (n, i, a))

    def test_size_2(self):
        self.assertEqual([0, 1, 1], spans(2, 1, 3))
        self.assertEqual([0, 2, 1, 2], spans(3, 1, 3))
        self.assertEqual([0, 2, 1, 31], spans(32, 1, number_of({0, 31})))
        self.assertEqual([0, 1, 16], spans(32, 1, number_of({5, 21})))
        for i in (0, 2, 3, 4, TOP):
            self.assertEqual([-2], spans(32, i, number_of({0, 31})))

    def test_steps_refused(self):
        for n in range(1, 33):
            for a in some_sets(n):
                size = len(plain.members(n, a))
                for i in (0, size, size + 1, 2 * size, 64, 65, 2 ** 32, 2 ** 63, TOP):
                    if not 1 <= i < size:
                        self.assertEqual([-2], spans(n, i, a), (n, i, a))

    def test_the_whole_wheel(self):
        for n in range(1, 33):
            for i in range(1, n):
                self.assertEqual([0, 1, i], spans(n, i, full(n)))
            self.assertEqual([-2], spans(n, n, full(n)))

    def test_against_the_words(self):
        for n in range(1, 33):
            for a in range(2 ** n) if n <= 8 else some_sets(n):
                for i in range(1, len(plain.members(n, a))):
                    told = plain.spans(n, i, a)
                    self.assertEqual([0, len(told)] + told, spans(n, i, a), (n, i, a))

    def test_of_even_sets_they_differ_by_1_at_most(self):
        for n in (7, 12, 31, 32):
            for k in range(2, n + 1):
                for i in range(1, k):
                    told = spans(n, i, even(n, k, k % n)[1])[2:]
                    self.assertLessEqual(told[-1] - told[0], 1, (n, k, i))

    def test_refusals(self):
        for i in (0, 1, 2, TOP):
            plain.check_one_set_refusals(self, lambda n, a: spans(n, i, a), 32)

    def test_repeatable(self):
        rows = [(12, 1, TRIAD), (12, 3, TRIAD), (32, 1, 5), (12, TOP, 5), (0, 1, 1), (65, 1, 1), (3, 1, 8)]
        plain.check_repeatable(self, spans, rows)


if __name__ == "__main__":
    unittest.main()
