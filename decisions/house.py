"""A house with two tables, and the calls on it; each call answers a list of numbers."""

from decisions.deciding import HIGHEST_WAY, decided
from decisions.everywhere import counted, how_many_and_first, idle_rules, nearest_deciding, overlapping
from decisions.everywhere import undecided, unlike
from decisions.rules import is_point, is_rule, rule_from

MOST_VALUES = 3
MOST_RULES = 6

WRONG = -1
ABSENT = -2
NOWHERE = -6
FULL = -7


class Table:
    """Rules, numbered by their places in the list, and a way."""

    def __init__(self, way):
        self.way = way
        self.rules = []

    def holding(self, point):
        """The rules that hold at a point, rising."""
        return [which for which, rule in enumerate(self.rules) if rule.holds(point)]

    def decision(self, held):
        """What is decided where just these rules hold."""
        return decided(self.way, [self.rules[which].says for which in held])

    def decision_at(self, point):
        return self.decision(self.holding(point))


class House:
    """How many values points have, and the tables."""

    def __init__(self):
        self.width = 1
        self.tables = [Table(0), Table(0)]

    def has_table(self, table):
        return table < len(self.tables)

    def begins(self, width, first, second):
        if not 1 <= width <= MOST_VALUES or max(first, second) > HIGHEST_WAY:
            return [WRONG]
        self.width = width
        self.tables = [Table(first), Table(second)]
        return [0]

    def rule(self, table, row):
        if not self.has_table(table):
            return [ABSENT]
        if not is_rule(row, self.width):
            return [WRONG]
        rules = self.tables[table].rules
        if len(rules) == MOST_RULES:
            return [FULL]
        rules.append(rule_from(row))
        return [len(rules) - 1]

    def drop(self, table, which):
        if not self.has_table(table):
            return [ABSENT]
        rules = self.tables[table].rules
        if which >= len(rules):
            return [ABSENT]
        rules.pop(which)
        return [len(rules)]

    def decides(self, table, point):
        if not self.has_table(table):
            return [ABSENT]
        if not is_point(point, self.width):
            return [WRONG]
        held = self.tables[table].holding(point)
        number = self.tables[table].decision(held)
        # Nothing and a clash are told alone, though at a clash there are rules that hold.
        if number < 0:
            return [number]
        return [number] + held

    def gaps(self, table):
        if not self.has_table(table):
            return [ABSENT]
        return how_many_and_first(undecided(self.tables[table], self.width))

    def overlaps(self, table):
        if not self.has_table(table):
            return [ABSENT]
        pairs = overlapping(self.tables[table].rules)
        answer = [len(pairs)]
        for pair in pairs:
            answer.extend(pair)
        return answer

    def idle(self, table):
        if not self.has_table(table):
            return [ABSENT]
        rules = idle_rules(self.tables[table], self.width)
        return [len(rules)] + rules

    def same(self):
        return how_many_and_first(unlike(self.tables[0], self.tables[1], self.width))

    def counts(self, table):
        if not self.has_table(table):
            return [ABSENT]
        return counted(self.tables[table], self.width)

    def nearest(self, table, number, point):
        if not self.has_table(table):
            return [ABSENT]
        if not is_point(point, self.width):
            return [WRONG]
        found = nearest_deciding(self.tables[table], number, point)
        if len(found) == 0:
            return [NOWHERE]
        return found
