"""Promise 24: move.

No wheel of 33 to 64 places is handed in, and on a wheel no set of more than 6 places.
"""

import unittest
from itertools import combinations

import plain
from plain import TOP, number_of
from wheelsets.desk import move, turned


def small_sets(n):
    """Sets of every size up to 6, three of each."""
    found = []
    for size in range(min(n, 6) + 1):
        picked = [range(size), range(n - size, n), [x * n // size for x in range(size)]]
        found.extend(number_of(places) for places in picked)
    return found


class Move(unittest.TestCase):
    def check(self, told, n, a, b):
        self.assertEqual(told, move(n, number_of(a), number_of(b)), (n, a, b))

    def check_by_the_words(self, n, a, b):
        least, row = plain.move(n, a, b)
        self.assertEqual([0, least, len(row)] + row, move(n, a, b), (n, a, b))

    def test_ordinary(self):
        self.check([0, 3, 3, 0, 5, 9], 12, {0, 4, 7}, {0, 5, 9})
        self.check([0, 1, 3, 0, 4, 8], 12, {0, 4, 7}, {0, 4, 8})
        self.check([0, 5, 1, 7], 12, {2}, {7})
        self.check([0, 6, 1, 8], 12, {2}, {8})

    def test_over_place_0(self):
        self.check([0, 1, 1, 11], 12, {0}, {11})
        self.check([0, 1, 1, 0], 12, {11}, {0})
        self.check([0, 5, 1, 30], 32, {3}, {30})
        self.check([0, 2, 2, 1, 30], 32, {0, 31}, {1, 30})
        self.check([0, 4, 2, 0, 1], 32, {30, 31}, {0, 1})
        self.check([0, 3, 3, 11, 3, 7], 12, {0, 4, 8}, {3, 7, 11})
        self.check([0, 3, 3, 4, 8, 0], 12, {3, 7, 11}, {0, 4, 8})

    def test_the_nearest_is_not_always_taken(self):
        self.check([0, 15, 2, 9, 16], 32, {0, 10}, {9, 16})
        self.check([0, 15, 2, 0, 10], 32, {9, 16}, {0, 10})

    def test_the_first_of_several_rows(self):
        self.check([0, 2, 2, 0, 11], 12, {0, 1}, {0, 11})
        self.check([0, 2, 2, 1, 3], 4, {0, 2}, {1, 3})
        self.check([0, 2, 2, 0, 2], 4, {1, 3}, {0, 2})
        self.check([0, 6, 3, 3, 4, 5], 12, {1, 2, 3}, {3, 4, 5})
        self.check([0, 36, 6, 26, 27, 28, 29, 30, 31], 32, range(6), range(26, 32))

    def test_the_rows_that_differ_behind_the_first_place(self):
        self.check([0, 4, 3, 0, 3, 4], 16, {0, 1, 2}, {0, 3, 4})
        self.check([0, 7, 3, 1, 8, 9], 16, {0, 5, 6}, {1, 8, 9})
        self.check([0, 5, 3, 1, 0, 2], 16, {1, 14, 15}, {0, 1, 2})

    def test_two_empty_sets(self):
        for n in range(1, 33):
            self.assertEqual([0, 0, 0], move(n, 0, 0))

    def test_one_place(self):
        for n in range(1, 33):
            for x in range(n):
                for y in (0, n // 2, n - 1):
                    self.assertEqual([0, plain.way(n, x, y), 1, y], move(n, 2 ** x, 2 ** y), (n, x, y))

    def test_to_itself(self):
        for n in range(1, 33):
            for a in small_sets(n):
                places = sorted(plain.members(n, a))
                self.assertEqual([0, 0, len(places)] + places, move(n, a, a), (n, a))

    def test_the_whole_wheel(self):
        for n in range(1, 7):
            self.assertEqual([0, 0, n] + list(range(n)), move(n, 2 ** n - 1, 2 ** n - 1))

    def test_six_places_on_the_widest_wheel(self):
        sets = [{0, 1, 2, 3, 4, 5}, {0, 6, 12, 17, 22, 27}, {26, 27, 28, 29, 30, 31}, {3, 4, 9, 20, 21, 31},
                {0, 15, 16, 17, 18, 31}, {1, 2, 4, 8, 16, 24}]
        for a in sets:
            for b in sets:
                self.check_by_the_words(32, number_of(a), number_of(b))

    def test_every_pair_on_small_wheels(self):
        for n in range(1, 8):
            for size in range(min(n, 6) + 1):
                sets = [number_of(places) for places in combinations(range(n), size)]
                for a in sets:
                    for b in sets:
                        self.check_by_the_words(n, a, b)

    def test_wider_wheels(self):
        for n in (11, 12, 31, 32):
            for a in small_sets(n):
                for t in (1, 2, n // 2, n - 1):
                    self.check_by_the_words(n, a, turned(n, t, a)[1])
                    self.check_by_the_words(n, turned(n, t, a)[1], plain.scaled(n, n - 1, a))

    def test_sizes_that_differ(self):
        for n in range(1, 33):
            for a in small_sets(n):
                for b in small_sets(n):
                    if len(plain.members(n, a)) != len(plain.members(n, b)):
                        self.assertEqual([-2], move(n, a, b), (n, a, b))

    def test_there_and_back(self):
        for n in (5, 12, 31, 32):
            sets = small_sets(n)
            for a in sets:
                for b in sets:
                    self.assertEqual(move(n, a, b)[:2], move(n, b, a)[:2], (n, a, b))

    def test_refusals(self):
        for b in (0, 1, 2 ** 6 - 1):
            plain.check_one_set_refusals(self, lambda n, a: move(n, a, b), 6)
            plain.check_one_set_refusals(self, lambda n, a: move(n, b, a), 6)

    def test_a_wrong_set_comes_before_sizes(self):
        for n in range(1, 33):
            for a in (2 ** n, 2 ** n + 1):
                for b in (0, 1, 2 ** (n - 1), 2 ** n):
                    self.assertEqual([-1], move(n, a, b), (n, a, b))
                    self.assertEqual([-1], move(n, b, a), (n, a, b))

    def test_repeatable(self):
        rows = [(12, 145, 545), (32, 63, 63 << 26), (5, 0, 0), (5, 1, 3), (0, 0, 0), (65, 1, 1), (3, 8, 1), (3, 1, 8)]
        plain.check_repeatable(self, move, rows)


if __name__ == "__main__":
    unittest.main()
