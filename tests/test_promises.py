"""The document's promises 1 to 7 over the whole program, on every set of small wheels."""

import cmath
import unittest

from plain import full, mapped, maps, members, way
from wheelsets.desk import (cancels, classes, count, counts, even, kth, least, level, many, map_of, move, number,
                            silent, tiles, turned)


def size_of(n, a):
    return len(members(n, a))


class Promises(unittest.TestCase):
    def test_1_alike_just_if_the_least_are_the_same(self):
        for n in range(1, 6):
            for kind in range(8):
                leasts = [least(n, kind, a)[1] for a in range(2 ** n)]
                for a in range(2 ** n):
                    for b in range(2 ** n):
                        alike = map_of(n, kind, a, b) != [-2]
                        self.assertEqual(leasts[a] == leasts[b], alike, (n, kind, a, b))

    def check_map(self, n, kind, a, b, told):
        first = [list(pair) for pair in maps(n, kind) if mapped(n, *pair, a) == b][0]
        self.assertEqual(first, told, (n, kind, a, b))

    def test_1_maps_told_are_the_first_that_do(self):
        for n in range(1, 7):
            for kind in range(8):
                for a in range(2 ** n):
                    told = least(n, kind, a)
                    self.check_map(n, kind, a, told[1], told[2:])
                    b = mapped(n, *maps(n, kind)[-1], a)
                    self.check_map(n, kind, a, b, map_of(n, kind, a, b)[1:])

    def test_2_counts_numbers_and_kths_are_of_the_classes(self):
        for n in range(1, 9):
            for kind in range(8):
                for k in range(n + 2):
                    row = classes(n, k, kind)[2:]
                    self.assertEqual([-2] if k > n else [0, len(row)], count(n, k, kind))
                    self.assertEqual(row, [kth(n, k, kind, i)[1] for i in range(len(row))])
                    self.assertEqual([-2], kth(n, k, kind, len(row)))
                    self.assertEqual(list(range(len(row))), [number(n, kind, a)[1] for a in row])

    def test_2_every_set_is_in_one_class(self):
        for n in range(1, 9):
            for kind in range(8):
                for k in range(n + 1):
                    together = sum(many(n, kind, a)[1] for a in classes(n, k, kind)[2:])
                    self.assertEqual(count(n, k, 0)[1], together, (n, k, kind))

    def test_3_counts_together_are_the_product_of_the_sizes(self):
        for n in range(1, 7):
            for a in range(2 ** n):
                for b in range(2 ** n):
                    self.assertEqual(size_of(n, a) * size_of(n, b), sum(counts(n, a, b)[2:]), (n, a, b))

    def test_3_the_rest_of_the_wheel(self):
        for n in range(1, 11):
            for a in range(2 ** n):
                rest = full(n) - a
                pairs = zip(counts(n, a, a)[2:], counts(n, rest, rest)[2:], strict=True)
                self.assertEqual({size_of(n, a) - size_of(n, rest)}, {one - other for one, other in pairs}, (n, a))

    def test_4_tiles_just_if_one_is_silent_at_every_d(self):
        for n in range(1, 9):
            silences = [set(silent(n, a)[2:]) for a in range(2 ** n)]
            for a in range(2 ** n):
                for b in range(2 ** n) if n < 7 else range(1, 2 ** n, 6):
                    fits = size_of(n, a) * size_of(n, b) == n and set(range(1, n)) <= silences[a] | silences[b]
                    self.assertEqual([0, 1 if fits else 0], tiles(n, a, b), (n, a, b))

    def test_5_level_2_are_just_the_turned_even_ones(self):
        for n in range(1, 10):
            those = {turned(n, t, even(n, k, r)[1])[1] for k in range(n + 1) for r in range(n) for t in range(n)}
            self.assertEqual(those, {a for a in range(2 ** n) if level(n, a) == [0, 2]}, n)

    def test_6_no_sum_is_taken_for_0_that_isn_t(self):
        # On wheels as small as these no sum but 0 comes so near to it.
        for n in range(1, 11):
            for a in range(2 ** n):
                sums = [sum(cmath.exp(2j * cmath.pi * d * x / n) for x in members(n, a)) for d in range(n)]
                told = [d for d in range(n) if abs(sums[d]) < 1e-9]
                self.assertEqual([0, len(told)] + told, silent(n, a), (n, a))
                weights = [1 if x in members(n, a) else 0 for x in range(n)]
                self.assertEqual([0, 1 if 1 in told or (n == 1 and a == 0) else 0], cancels(n, 1, weights), (n, a))

    def test_7_no_way_is_less_and_back_it_is_the_same(self):
        for n in range(1, 7):
            for a in range(2 ** n):
                for b in range(2 ** n):
                    self.check_move(n, a, b)

    def check_move(self, n, a, b):
        told = move(n, a, b)
        self.assertEqual(told[:2], move(n, b, a)[:2], (n, a, b))
        if told != [-2]:
            starts, row = sorted(members(n, a)), told[3:]
            self.assertEqual(members(n, b), set(row))
            self.assertEqual(told[1], sum(way(n, x, y) for x, y in zip(starts, row, strict=True)), (n, a, b))
            for c in range(2 ** n):
                if size_of(n, c) == len(row):
                    # Over a third set it can't be shorter.
                    self.assertLessEqual(told[1], move(n, a, c)[1] + move(n, c, b)[1], (n, a, b, c))


if __name__ == "__main__":
    unittest.main()
