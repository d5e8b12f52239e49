"""Promises 5 to 8: least, map_of, many, period. No wheel of 33 to 64 places is handed in to them."""

import unittest

import plain
from plain import TOP, WHEELS_REFUSED, full, number_of, some_sets
from wheelsets.desk import least, many, map_of, period

KINDS = range(8)
KINDS_REFUSED = (8, 9, 15, 16, 2 ** 32, TOP)
MAJOR = number_of({0, 4, 7})
MINOR = number_of({0, 3, 7})
# Not too many, as every map is tried on each set.
WHEELS = (1, 2, 3, 4, 5, 6, 7, 8, 9, 12, 13, 16, 24, 30, 31, 32)


def check_kind_refusals(case, call):
    """call(kind, n, a) refuses a kind above 7 on every wheel, right or wrong."""
    for kind in KINDS_REFUSED:
        for n in (1, 2, 12, 32) + WHEELS_REFUSED:
            for a in (0, 1, TOP):
                case.assertEqual([-1], call(kind, n, a), (kind, n, a))


class Least(unittest.TestCase):
    def test_every_kind(self):
        self.assertEqual([0, MAJOR, 1, 0], least(12, 0, MAJOR))
        self.assertEqual([0, MAJOR, 1, 0], least(12, 1, MAJOR))
        self.assertEqual([0, MAJOR, 1, 0], least(12, 2, MAJOR))
        self.assertEqual([0, MINOR, 11, 7], least(12, 3, MAJOR))
        for kind in (4, 5, 6, 7):
            self.assertEqual([0, number_of({0, 1, 4}), 7, 0], least(12, kind, MAJOR))

    def test_kind_without_turns(self):
        a = number_of({0, 5, 8})
        self.assertEqual([0, a, 1, 0], least(12, 0, a))
        self.assertEqual([0, MAJOR, 11, 0], least(12, 2, a))

    def test_first_of_several_maps(self):
        self.assertEqual([0, number_of({0, 6}), 1, 3], least(12, 1, number_of({3, 9})))
        self.assertEqual([0, number_of({0, 6}), 1, 3], least(12, 7, number_of({3, 9})))
        self.assertEqual([0, number_of({0, 4, 8}), 1, 1], least(12, 3, number_of({3, 7, 11})))
        self.assertEqual([0, 0b111, 1, 2], least(5, 3, 0b11001))
        self.assertEqual([0, 3, 2, 0], least(5, 4, number_of({0, 3})))

    def test_edges(self):
        for kind in KINDS:
            self.assertEqual([0, 1, 1, 0], least(1, kind, 1))
            self.assertEqual([0, 1, 1, 1] if kind % 2 else [0, 2, 1, 0], least(2, kind, 2))
            for n in range(1, 33):
                self.assertEqual([0, 0, 1, 0], least(n, kind, 0))
                self.assertEqual([0, full(n), 1, 0], least(n, kind, full(n)))
        for kind in (1, 3, 5, 7):
            self.assertEqual([0, 1, 1, 1], least(32, kind, 2 ** 31))
        self.assertEqual([0, 2 ** 31, 1, 0], least(32, 0, 2 ** 31))
        self.assertEqual([0, 2, 31, 0], least(32, 2, 2 ** 31))
        self.assertEqual([0, 2, 31, 0], least(32, 4, 2 ** 31))

    def test_against_the_words(self):
        for n in WHEELS:
            for a in range(2 ** n) if n <= 7 else some_sets(n):
                for kind in KINDS:
                    told = plain.alike(n, kind, a)
                    b = min(told)
                    self.assertEqual([0, b, *told[b]], least(n, kind, a), (n, kind, a))

    def test_alike_just_if_the_least_are_the_same(self):
        for n in range(1, 7):
            for kind in KINDS:
                leasts = [least(n, kind, a)[1] for a in range(2 ** n)]
                for a in range(2 ** n):
                    told = [b for b in range(2 ** n) if leasts[b] == leasts[a]]
                    self.assertEqual(sorted(plain.alike(n, kind, a)), told, (n, kind, a))

    def test_refusals(self):
        for kind in KINDS:
            plain.check_one_set_refusals(self, lambda n, a: least(n, kind, a), 32)
        check_kind_refusals(self, lambda kind, n, a: least(n, kind, a))

    def test_repeatable(self):
        rows = [(12, 3, MAJOR), (12, 7, MAJOR), (32, 7, 5), (0, 1, 1), (65, 1, 1), (3, 1, 8), (3, 8, 1)]
        plain.check_repeatable(self, least, rows)


class MapOf(unittest.TestCase):
    def test_every_kind(self):
        for kind in KINDS:
            self.assertEqual([0, 1, 0], map_of(12, kind, MAJOR, MAJOR))
        for kind in (0, 1, 2, 4, 6):
            self.assertEqual([-2], map_of(12, kind, MAJOR, MINOR))
        for kind in (3, 5, 7):
            self.assertEqual([0, 11, 7], map_of(12, kind, MAJOR, MINOR))
        self.assertEqual([0, 11, 0], map_of(12, 2, MAJOR, number_of({0, 5, 8})))
        self.assertEqual([0, 7, 0], map_of(12, 4, MAJOR, number_of({0, 1, 4})))
        self.assertEqual([0, 1, 11], map_of(12, 1, MAJOR, number_of({11, 3, 6})))

    def test_first_of_several_maps(self):
        for kind in (1, 3, 5, 7):
            self.assertEqual([0, 1, 2], map_of(12, kind, number_of({0, 3, 6, 9}), number_of({2, 5, 8, 11})))
        self.assertEqual([0, 1, 1], map_of(8, 7, number_of({3, 7}), number_of({0, 4})))
        self.assertEqual([0, 2, 0], map_of(7, 4, number_of({1, 6}), number_of({2, 5})))

    def test_no_map(self):
        for n in (1, 2, 12, 32):
            for kind in KINDS:
                self.assertEqual([-2], map_of(n, kind, 0, 1))
                self.assertEqual([-2], map_of(n, kind, full(n), 0))
        self.assertEqual([-2], map_of(2, 6, 1, 2))
        self.assertEqual([-2], map_of(6, 7, number_of({0, 1}), number_of({0, 2})))

    def test_edges(self):
        for kind in KINDS:
            self.assertEqual([0, 1, 0], map_of(1, kind, 1, 1))
            self.assertEqual([0, 1, 1] if kind % 2 else [-2], map_of(2, kind, 1, 2))
            self.assertEqual([0, 1, 31] if kind % 2 else [-2], map_of(32, kind, 1, 2 ** 31))
            for n in range(1, 33):
                self.assertEqual([0, 1, 0], map_of(n, kind, 0, 0))
                self.assertEqual([0, 1, 0], map_of(n, kind, full(n), full(n)))

    def test_against_the_words(self):
        for n in range(1, 6):
            for kind in KINDS:
                for a in range(2 ** n):
                    for b in range(2 ** n):
                        told = plain.map_of(n, kind, a, b)
                        self.assertEqual([-2] if told is None else [0, *told], map_of(n, kind, a, b), (n, kind, a, b))

    def test_wider_wheels(self):
        for n in (8, 12, 15, 31, 32):
            for a in some_sets(n):
                told = plain.alike(n, 7, a)
                for b in sorted(told)[::23]:
                    self.assertEqual([0, *told[b]], map_of(n, 7, a, b), (n, a, b))

    def test_refusals(self):
        for kind in KINDS:
            plain.check_one_set_refusals(self, lambda n, a: map_of(n, kind, a, 1), 32)
            plain.check_one_set_refusals(self, lambda n, b: map_of(n, kind, 0, b), 32)
        check_kind_refusals(self, lambda kind, n, a: map_of(n, kind, a, 0))
        check_kind_refusals(self, lambda kind, n, b: map_of(n, kind, 0, b))

    def test_repeatable(self):
        rows = [(12, 3, MAJOR, MINOR), (12, 1, MAJOR, MINOR), (32, 7, 5, 10), (0, 1, 1, 1), (65, 1, 1, 1)]
        plain.check_repeatable(self, map_of, rows + [(3, 1, 8, 1), (3, 1, 1, 8), (3, 8, 1, 1)])


class Many(unittest.TestCase):
    def test_every_kind(self):
        told = [many(12, kind, MAJOR) for kind in KINDS]
        self.assertEqual([[0, 1], [0, 12], [0, 2], [0, 24], [0, 4], [0, 48], [0, 4], [0, 48]], told)

    def test_each_set_is_counted_once(self):
        told = [many(12, kind, number_of({0, 3, 6, 9})) for kind in KINDS]
        self.assertEqual([[0, 1], [0, 3], [0, 1], [0, 3], [0, 1], [0, 3], [0, 1], [0, 3]], told)

    def test_edges(self):
        for kind in KINDS:
            self.assertEqual([0, 1], many(1, kind, 1))
            self.assertEqual([0, 2] if kind % 2 else [0, 1], many(2, kind, 1))
            self.assertEqual([0, 32] if kind % 2 else [0, 1], many(32, kind, 1))
            for n in range(1, 33):
                self.assertEqual([0, 1], many(n, kind, 0))
                self.assertEqual([0, 1], many(n, kind, full(n)))
        self.assertEqual([0, 16], many(32, 4, 2))

    def test_against_the_words(self):
        for n in WHEELS:
            for a in range(2 ** n) if n <= 7 else some_sets(n):
                for kind in KINDS:
                    self.assertEqual([0, len(plain.alike(n, kind, a))], many(n, kind, a), (n, kind, a))

    def test_refusals(self):
        for kind in KINDS:
            plain.check_one_set_refusals(self, lambda n, a: many(n, kind, a), 32)
        check_kind_refusals(self, lambda kind, n, a: many(n, kind, a))

    def test_repeatable(self):
        rows = [(12, 3, MAJOR), (12, 7, MAJOR), (32, 7, 5), (0, 1, 1), (65, 1, 1), (3, 1, 8), (3, 8, 1)]
        plain.check_repeatable(self, many, rows)


class Period(unittest.TestCase):
    def test_only_the_whole_round_brings_it_back(self):
        self.assertEqual([0, 12], period(12, MAJOR))
        self.assertEqual([0, 2], period(2, 1))
        self.assertEqual([0, 32], period(32, 1))
        self.assertEqual([0, 32], period(32, 2 ** 31))

    def test_less_brings_it_back(self):
        self.assertEqual([0, 6], period(12, number_of({0, 6})))
        self.assertEqual([0, 3], period(12, number_of({1, 4, 7, 10})))
        self.assertEqual([0, 4], period(12, number_of({0, 1, 4, 5, 8, 9})))
        self.assertEqual([0, 16], period(32, number_of({0, 16})))

    def test_edges(self):
        self.assertEqual([0, 1], period(1, 1))
        for n in range(1, 33):
            self.assertEqual([0, 1], period(n, 0))
            self.assertEqual([0, 1], period(n, full(n)))

    def test_against_the_words(self):
        for n in range(1, 33):
            for a in range(2 ** n) if n <= 8 else some_sets(n):
                self.assertEqual([0, plain.period(n, a)], period(n, a), (n, a))

    def test_refusals(self):
        plain.check_one_set_refusals(self, period, 32)

    def test_repeatable(self):
        plain.check_repeatable(self, period, [(12, MAJOR), (12, 65), (32, 5), (0, 1), (65, 1), (3, 8)])


if __name__ == "__main__":
    unittest.main()
