"""Promises 17 to 19: level, silent, cancels.

No wheel of 33 to 64 places is handed in to these three.
"""

import unittest
from itertools import product

import plain
from plain import T_HIGH, T_LOW, TOP, WHEELS_REFUSED, full, number_of, some_sets
from wheelsets.desk import cancels, even, level, silent, tiles, turned

TRIAD = number_of({0, 4, 7})
SCALE = number_of({0, 2, 4, 5, 7, 9, 11})


class Unchanging(list):
    """A list that can't be changed, not for a while either."""

    def refuse(self, *given, **named):
        raise AssertionError("what was handed in is changed")

    __setitem__ = __delitem__ = __iadd__ = __imul__ = refuse
    append = clear = extend = insert = pop = remove = reverse = sort = refuse


class Level(unittest.TestCase):
    def test_2(self):
        self.assertEqual([0, 2], level(12, SCALE))
        self.assertEqual([0, 2], level(12, number_of({1, 5, 9})))
        self.assertEqual([0, 2], level(8, number_of({0, 3, 6})))
        self.assertEqual([0, 2], level(5, number_of({0, 1, 3})))
        self.assertEqual([0, 2], level(32, full(31)))

    def test_1(self):
        self.assertEqual([0, 1], level(12, number_of({0, 1, 2})))
        self.assertEqual([0, 1], level(12, number_of({0, 2, 7})))
        self.assertEqual([0, 1], level(12, number_of({0, 2, 4, 6})))
        self.assertEqual([0, 1], level(12, number_of({0, 1, 6, 7})))
        self.assertEqual([0, 1], level(32, full(16)))

    def test_0(self):
        self.assertEqual([0, 0], level(12, TRIAD))
        self.assertEqual([0, 0], level(12, number_of({0, 1, 3})))
        self.assertEqual([0, 0], level(32, number_of({0, 1, 31, 29})))

    def test_every_number_of_steps_is_looked_at(self):
        self.assertEqual([0, 0], level(6, number_of({0, 1, 2, 4})))
        steps = (1, 2, 1, 2, 1, 2, 2, 1, 2, 2, 1, 2, 2)
        places = number_of(sum(steps[:j]) for j in range(len(steps)))
        told = [[1, 2], [3, 4], [4, 5], [6, 7], [7, 8, 9]]
        self.assertEqual(told, [plain.spans(21, i, places) for i in range(1, 6)])
        self.assertEqual([0, 0], level(21, places))

    def test_sizes_0_and_1(self):
        for n in range(1, 33):
            self.assertEqual([0, 2], level(n, 0))
            for x in range(n):
                self.assertEqual([0, 2], level(n, 2 ** x))

    def test_size_2(self):
        for n in range(2, 33):
            for x in range(1, n):
                told = 2 if abs(n - 2 * x) <= 1 else 1
                self.assertEqual([0, told], level(n, number_of({0, x})), (n, x))

    def test_the_whole_wheel(self):
        for n in range(1, 33):
            self.assertEqual([0, 2], level(n, full(n)))

    def test_2_are_just_the_turned_even_ones(self):
        for n in range(1, 11):
            evens = {even(n, k, r)[1] for k in range(n + 1) for r in range(n)}
            those = {turned(n, t, a)[1] for t in range(n) for a in evens}
            self.assertEqual(those, {a for a in range(2 ** n) if level(n, a) == [0, 2]})

    def test_turned_even_ones_on_wide_wheels(self):
        for n in (24, 30, 31, 32):
            for k in range(n + 1):
                for r in (0, n // 2, n - 1):
                    for t in (0, 1, n - 1):
                        a = turned(n, t, even(n, k, r)[1])[1]
                        self.assertEqual([0, 2], level(n, a), (n, k, r, t))

    def test_against_the_words(self):
        for n in range(1, 33):
            for a in range(2 ** n) if n <= 10 else some_sets(n):
                self.assertEqual([0, plain.level(n, a)], level(n, a), (n, a))

    def test_refusals(self):
        plain.check_one_set_refusals(self, level, 32)

    def test_repeatable(self):
        rows = [(12, SCALE), (12, TRIAD), (12, 7), (32, 0), (0, 0), (65, 1), (3, 8)]
        plain.check_repeatable(self, level, rows)


class Silent(unittest.TestCase):
    def check(self, told, n, places):
        self.assertEqual([0, len(told)] + told, silent(n, number_of(places)), (n, places))

    def test_regular_ones(self):
        self.check([1, 2, 3, 5, 6, 7, 9, 10, 11], 12, {0, 3, 6, 9})
        self.check([1, 3, 5, 7, 9, 11], 12, {2, 8})
        self.check([d for d in range(32) if d % 2 == 1], 32, {15, 31})
        self.check([d for d in range(30) if d % 5 != 0], 30, range(3, 30, 6))

    def test_several_regular_ones(self):
        self.check([1, 5, 7, 11], 12, {0, 6, 1, 5, 9})
        self.check([1, 2, 4, 5, 6, 7, 8, 10, 11], 12, {0, 1, 4, 5, 8, 9})

    def test_none(self):
        self.check([], 12, {0, 4, 7})
        self.check([], 12, {0, 2, 4, 5, 7, 9, 11})
        self.check([], 7, {1, 2, 4})
        self.check([], 30, {0})

    def test_0_without_being_a_sum_of_regular_ones(self):
        # The fifths but 0 come to -1, and the thirds but 0, turned over, to 1.
        places = {6, 12, 18, 24, 5, 25}
        told = silent(30, number_of(places))[2:]
        self.assertEqual([d for d in range(30) if d % 2 and d % 3 and d % 5], told)
        for polygon in (2, 3, 5):
            parts = [set(range(x, 30, 30 // polygon)) for x in range(30 // polygon)]
            self.assertFalse([part for part in parts if part <= places])

    def test_only_at_a_d_with_a_divisor_in_common(self):
        self.check([3, 9], 12, {0, 2})
        self.check([2, 6, 10], 12, {0, 3})
        self.check([16], 32, {0, 1})

    def test_the_empty_set(self):
        for n in range(1, 33):
            self.check(list(range(n)), n, [])

    def test_the_whole_wheel(self):
        for n in range(1, 33):
            self.check(list(range(1, n)), n, range(n))

    def test_one_place(self):
        for n in range(1, 33):
            self.check([], n, [0])
            self.check([], n, [n - 1])

    def test_against_the_words(self):
        for n in range(1, 33):
            for a in range(2 ** n) if n <= 10 else some_sets(n) + [full(n // 2), number_of(range(0, n, 2))]:
                told = plain.silent(n, a)
                self.assertEqual([0, len(told)] + told, silent(n, a), (n, a))

    def test_turned_sets_are_silent_alike(self):
        for n in (12, 30, 32):
            for a in some_sets(n):
                for t in (1, n // 2, n - 1):
                    self.assertEqual(silent(n, a), silent(n, turned(n, t, a)[1]), (n, t, a))

    def check_tiling(self, n, a, b):
        heard = set(range(1, n)) - set(silent(n, a)[2:]) - set(silent(n, b)[2:])
        sizes = len(plain.members(n, a)) * len(plain.members(n, b))
        self.assertEqual([0, 1 if sizes == n and not heard else 0], tiles(n, a, b), (n, a, b))

    def test_with_tiles(self):
        for n in range(1, 7):
            for a in range(2 ** n):
                for b in range(2 ** n):
                    self.check_tiling(n, a, b)

    def test_with_tiles_on_wide_wheels(self):
        for n in (12, 30, 32):
            parts = [part for part in range(1, n + 1) if n % part == 0]
            sets = [number_of(range(part)) for part in parts]
            sets += [number_of(range(n - part, -1, -part)) for part in parts]
            for a in sets + some_sets(n):
                for b in sets + some_sets(n):
                    self.check_tiling(n, a, b)
        self.assertEqual([0, 1], tiles(30, number_of(range(6)), number_of(range(5, 30, 6))))

    def test_refusals(self):
        plain.check_one_set_refusals(self, silent, 32)

    def test_repeatable(self):
        rows = [(12, TRIAD), (12, 585), (30, 0), (32, full(32)), (0, 0), (65, 1), (3, 8)]
        plain.check_repeatable(self, silent, rows)


class Cancels(unittest.TestCase):
    def test_ordinary(self):
        self.assertEqual([0, 1], cancels(4, 1, [1, 2, 1, 2]))
        self.assertEqual([0, 0], cancels(4, 1, [1, 2, 2, 1]))
        self.assertEqual([0, 1], cancels(6, 1, [1, -1, 1, 0, 0, 0]))
        self.assertEqual([0, 1], cancels(3, 2, [5, 5, 5]))
        self.assertEqual([0, 0], cancels(3, 2, [5, 5, 4]))
        self.assertEqual([0, 1], cancels(12, 1, [7, 0, 0, 3, 7, 0, 0, 0, 7, 3, 0, 0]))

    def test_weights_below_0(self):
        self.assertEqual([0, 1], cancels(5, 1, [-2, -2, -2, -2, -2]))
        self.assertEqual([0, 1], cancels(8, 1, [3, -4, 0, 1, 3, -4, 0, 1]))
        self.assertEqual([0, 0], cancels(8, 1, [1, -1, 0, 0, 0, 0, 0, 0]))
        self.assertEqual([0, 1], cancels(6, 5, [0, -9, 9, -9, 0, 0]))

    def test_d_0_is_the_sum_of_the_weights(self):
        self.assertEqual([0, 1], cancels(4, 0, [5, -2, -4, 1]))
        self.assertEqual([0, 0], cancels(4, 0, [5, 5, 5, 5]))
        self.assertEqual([0, 1], cancels(1, 0, [0]))
        self.assertEqual([0, 0], cancels(1, 0, [1]))

    def test_d_is_counted_round(self):
        rows = [(4, [5, -2, -4, 1]), (6, [1, 1, 1, 0, 0, 0]), (12, [1, 0, 0, 0, 0, 0] * 2), (3, [4, 4, 4])]
        for n, weights in rows:
            for d in range(n):
                told = cancels(n, d, weights)
                for further in (n, 5 * n, 2 ** 62 // n * n, (TOP - d) // n * n):
                    self.assertEqual(told, cancels(n, d + further, weights), (n, d, further))
        self.assertEqual([0, 0], cancels(4, 4, [1, 1, 1, 1]))
        self.assertEqual([0, 1], cancels(4, TOP, [1, 1, 1, 1]))
        self.assertEqual([0, 0], cancels(5, TOP, [1, 1, 1, 1, 1]))
        self.assertEqual([0, 1], cancels(32, 2 ** 63 + 1, [1] * 32))

    def test_several_places_at_one_direction(self):
        self.assertEqual([0, 1], cancels(6, 2, [1, 1, 1, 0, 0, 0]))
        self.assertEqual([0, 1], cancels(6, 2, [1, 0, 1, 0, 1, 0]))
        self.assertEqual([0, 1], cancels(6, 3, [1, 1, 0, 0, 0, 0]))
        self.assertEqual([0, 1], cancels(6, 2, [1, 0, 0, -1, 0, 0]))
        self.assertEqual([0, 1], cancels(6, 3, [2, 3, 4, 5, 6, 4]))
        self.assertEqual([0, 0], cancels(6, 3, [2, 3, 4, 5, 6, 5]))
        self.assertEqual([0, 1], cancels(32, 16, [9, 9] + [0] * 30))
        self.assertEqual([0, 0], cancels(32, 8, [9, 9] + [0] * 30))

    def test_all_weights_0(self):
        for n in range(1, 33):
            for d in (0, 1, n, TOP):
                self.assertEqual([0, 1], cancels(n, d, [0] * n))

    def test_greatest_and_least_weights(self):
        for n in range(2, 33):
            for weight in (T_HIGH, T_LOW):
                self.assertEqual([0, 1], cancels(n, 1, [weight] * n))
                self.assertEqual([0, 0], cancels(n, 0, [weight] * n))
                self.assertEqual([0, 0], cancels(n, 1, [weight] * (n - 1) + [0]))
        self.assertEqual([0, 0], cancels(2, 0, [T_HIGH, T_LOW]))
        self.assertEqual([0, 0], cancels(2, 1, [T_HIGH, T_LOW]))
        self.assertEqual([0, 1], cancels(3, 0, [T_HIGH, T_LOW, 1]))
        self.assertEqual([0, 1], cancels(6, 1, [T_HIGH, -T_HIGH, T_HIGH, 0, 0, 0]))
        self.assertEqual([0, 0], cancels(6, 1, [T_HIGH, -T_HIGH, T_HIGH - 1, 0, 0, 0]))

    def test_sums_that_are_a_multiple_of_2_to_the_64(self):
        self.assertEqual([0, 0], cancels(4, 0, [T_LOW, T_LOW, 0, 0]))
        self.assertEqual([0, 0], cancels(4, 2, [T_LOW, 0, T_LOW, 0]))
        self.assertEqual([0, 0], cancels(32, 0, [T_LOW] * 32))

    def last_pair(self, following, pair):
        """The last pair that fits, each made from the one before."""
        while max(following(*pair)) <= T_HIGH:
            pair = following(*pair)
        return pair

    def test_near_0_is_not_0(self):
        # Direction 1 of 5 and direction 4 together are nearly x / y of these, and never just that.
        x, y = self.last_pair(lambda x, y: (y, x + y), (0, 1))
        self.assertEqual([0, 0], cancels(5, 1, [x, -y, 0, 0, -y]))
        self.assertEqual([0, 0], cancels(10, 2, [x, -y, 0, 0, -y, 0, 0, 0, 0, 0]))
        self.assertEqual([0, 0], cancels(30, 1, [x] + [0] * 5 + [-y] + [0] * 17 + [-y] + [0] * 5))
        # Direction 1 of 8 and direction 7: the root of 2.
        x, y = self.last_pair(lambda x, y: (x + 2 * y, x + y), (1, 1))
        self.assertEqual([0, 0], cancels(8, 1, [x, -y, 0, 0, 0, 0, 0, -y]))
        self.assertEqual([0, 0], cancels(32, 1, [x] + [0] * 3 + [-y] + [0] * 23 + [-y] + [0] * 3))
        # Direction 1 of 12 and direction 11: the root of 3.
        x, y = self.last_pair(lambda x, y: (2 * x + 3 * y, x + 2 * y), (1, 1))
        self.assertEqual([0, 0], cancels(12, 1, [x, -y, 0, 0, 0, 0, 0, 0, 0, 0, 0, -y]))

    def odd_one(self, weight):
        return [weight if x in (5, 6, 12, 18, 24, 25) else 0 for x in range(30)]

    def test_0_of_great_weights(self):
        x, y, z = T_HIGH, 2 ** 62 + 1, T_LOW
        self.assertEqual([0, 1], cancels(12, 1, [x, y, z, 0, 0, y, x, 0, z, y, 0, 0]))
        self.assertEqual([0, 0], cancels(12, 1, [x, y, z, 0, 0, y, x, 0, z, y + 1, 0, 0]))
        self.assertEqual([0, 1], cancels(30, 1, self.odd_one(T_HIGH)))
        self.assertEqual([0, 1], cancels(30, 7, self.odd_one(T_LOW)))
        self.assertEqual([0, 0], cancels(30, 2, self.odd_one(T_HIGH)))

    def test_against_the_words(self):
        for n in range(1, 33):
            rows = [[1] * n, [0] * (n - 1) + [1], [(7 * x * x + 3) % 11 - 5 for x in range(n)]]
            for part in range(1, n):
                if n % part == 0:
                    rows.append([x % part - part // 2 for x in range(n)])
                    rows.append([T_HIGH * (-1) ** (x // part) for x in range(n)])
            for weights in rows:
                for d in list(range(n)) + [n, 3 * n + 2, 2 ** 63, TOP]:
                    self.assertEqual([0, plain.cancels(n, d, weights)], cancels(n, d, weights), (n, d, weights))

    def test_all_small_weights_on_small_wheels(self):
        for n in range(1, 7):
            for weights in product((-1, 0, 1, 2) if n < 6 else (-1, 0, 1), repeat=n):
                for d in range(n):
                    told = cancels(n, d, list(weights))
                    self.assertEqual([0, plain.cancels(n, d, weights)], told, (n, d, weights))

    def test_of_a_set_it_is_silent(self):
        for n in (6, 12, 30, 32):
            for a in some_sets(n):
                weights = [1 if x in plain.members(n, a) else 0 for x in range(n)]
                told = [d for d in range(n) if cancels(n, d, weights) == [0, 1]]
                self.assertEqual([0, len(told)] + told, silent(n, a))

    def test_wheels_refused(self):
        for n in WHEELS_REFUSED:
            for many in (0, 1, 64, 65, 66, 99, 100):
                for d in (0, 1, TOP):
                    self.assertEqual([-1], cancels(n, d, [0] * many), (n, d, many))

    def test_too_few_and_too_many_weights(self):
        for n in range(1, 33):
            for many in (0, 1, n - 1, n + 1, 2 * n, 64, 65, 100):
                for d in (0, 1, n, TOP):
                    if many != n:
                        self.assertEqual([-1], cancels(n, d, [0] * many), (n, d, many))
                        self.assertEqual([-1], cancels(n, d, [T_LOW] * many), (n, d, many))

    def test_weights_stay_as_they_were(self):
        for n, d, weights in [(6, 2, (1, 2, 3, 4, 5, 6)), (5, 1, (7,) * 5), (4, 1, (1, 2)), (0, 1, ())]:
            handed = Unchanging(weights)
            cancels(n, d, handed)
            self.assertEqual(list(weights), handed)

    def test_repeatable(self):
        rows = [(4, 1, [1, 2, 1, 2]), (6, TOP, [1, 2, 3, 4, 5, 6]), (1, 0, [T_LOW]), (30, 1, self.odd_one(T_HIGH)),
                (0, 0, []), (65, 1, [1] * 65), (3, 1, [1, 1]), (3, 1, [1, 1, 1, 1])]
        plain.check_repeatable(self, cancels, rows)


if __name__ == "__main__":
    unittest.main()
