"""Holds what is told of all points against a look at each of them."""

import itertools
import unittest

from asking import ask, begins, counts, gaps, idle, nearest, overlaps, rule, same, scattered_rows

ABSENT_NUMBER = 999


class Looked:
    """One table; which rules hold is kept as a number, a bit a rule, so that a million points are soon looked at."""

    def __init__(self, way, rows):
        self.way = way
        self.rows = rows
        self.known = {}

    def rules_at(self, place):
        """For each value at a place, the rules that have it in their range."""
        return [
            sum(1 << k for k, row in enumerate(self.rows) if row[1 + 2 * place] <= value <= row[2 + 2 * place])
            for value in range(101)
        ]

    def decided(self, held):
        if held not in self.known:
            self.known[held] = self.decide([row[0] for k, row in enumerate(self.rows) if held >> k & 1])
        return self.known[held]

    def decide(self, said):
        if not said:
            return "nothing"
        if self.way == 0:
            return said[0]
        if self.way == 1:
            return said[0] if len(set(said)) == 1 else "clash"
        return max(said) if self.way == 2 else sum(said)

    def held_everywhere(self, values):
        """For each point, in the points' order, the rules that hold there."""
        by_place = [self.rules_at(place) for place in range(values)]
        held = [(1 << len(self.rows)) - 1]
        for place in by_place:
            held = [rules & more for rules in held for more in place]
        return held


def points(values):
    return itertools.product(range(101), repeat=values)


def first_and_count(values, flags):
    """How many points are flagged, then the first of them."""
    first = next((list(point) for point, flag in zip(points(values), flags) if flag), [])
    return [sum(flags)] + first


def overlaps_seen(table, seen):
    pairs = [pair for pair in itertools.combinations(range(len(table.rows)), 2)
             if any(held >> pair[0] & 1 and held >> pair[1] & 1 for held in seen)]
    return [len(pairs)] + [number for pair in pairs for number in pair]


def idle_seen(table, seen):
    idle_ones = [k for k in range(len(table.rows))
                 if all(table.decided(held) == table.decided(held & ~(1 << k)) for held in seen)]
    return [len(idle_ones)] + idle_ones


def nearest_seen(values, decided, number, start):
    best = min(
        ((sum(abs(a - b) for a, b in zip(point, start)), *point)
         for point, told in zip(points(values), decided) if told == number),
        default=(-6,),
    )
    return list(best)


class EveryPoint(unittest.TestCase):
    def check(self, values, ways, rows, starts):
        """rows of table 0 and of table 1; nearest is asked from each start for some numbers."""
        tables = [Looked(way, table_rows) for way, table_rows in zip(ways, rows)]
        held = [table.held_everywhere(values) for table in tables]
        decided = [[table.decided(rules) for rules in everywhere] for table, everywhere in zip(tables, held)]
        expected = [first_and_count(values, [one != other for one, other in zip(*decided)])]
        asked = [same()]
        for which, table in enumerate(tables):
            seen = set(held[which])
            clear = [decided[which].count("nothing"), decided[which].count("clash")]
            expected += [overlaps_seen(table, seen), idle_seen(table, seen)]
            expected += [clear + [101 ** values - sum(clear)]]
            asked += [overlaps(which), idle(which), counts(which)]
        expected.append(first_and_count(values, [told == "nothing" for told in decided[0]]))
        asked.append(gaps(0))
        numbers = sorted(number for number in set(decided[0]) if number not in ("nothing", "clash"))
        for number, start in zip(numbers[-2:] + numbers[:1] + [ABSENT_NUMBER], itertools.cycle(starts)):
            expected.append(nearest_seen(values, decided[0], number, start))
            asked.append(nearest(0, number, *start))
        rules = [rule(which, *row) for which in (0, 1) for row in rows[which]]
        told = ask(begins(values, *ways), *rules, *asked)
        self.assertEqual(told[1 + len(rules):], expected, (ways, rows, starts))

    def scattered(self, seed, values, many, says=3):
        """Two tables of which the other is the first but for its last rule, or one that has nothing of it."""
        one = scattered_rows(seed * 7919 + values, many, values, says)
        other = scattered_rows(seed * 104729 + 13, many, values, says)
        starts = [[(seed * 37 + 11 * k) % 101 for k in range(values)], [50] * values]
        return [one, other if seed % 3 == 0 else one[:-1] + other[-1:]], starts

    def test_one_value(self):
        for seed in range(60):
            rows, starts = self.scattered(seed, 1, 1 + seed % 6)
            for way in range(4):
                self.check(1, (way, (way + seed) % 4 if seed % 2 else way), rows, starts)

    def test_two_values(self):
        for seed in range(9):
            rows, starts = self.scattered(seed, 2, 3 + seed % 4)
            for way in range(4):
                self.check(2, (way, (way + seed) % 4 if seed % 2 else way), rows, starts)

    def test_three_values(self):
        for way in range(4):
            rows, starts = self.scattered(way + 1, 3, 6)
            self.check(3, (way, way if way % 2 else 1), rows, starts)

    def test_rules_like_one_another(self):
        for way in range(4):
            one = [[1, 10, 20, 10, 20], [1, 10, 20, 10, 20], [0, 10, 20, 15, 25], [2, 20, 30, 20, 30], [1, 0, 25, 0, 25]]
            self.check(2, (way, way), [one, one[::-1]], [[22, 22], [100, 0]])
            self.check(2, (way, way), [one, one[1:]], [[0, 100], [15, 15]])


if __name__ == "__main__":
    unittest.main()
