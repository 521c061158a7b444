"""A house with two tables, and the calls on it; each call answers a list of numbers."""

from decisions.cells import cells, first_point, size
from decisions.deciding import HIGHEST_WAY, decided
from decisions.rules import is_point, is_rule, rule_from

MOST_VALUES = 3
MOST_RULES = 6

WRONG = -1
ABSENT = -2
FULL = -7


class Table:
    """Rules, numbered by their places in the list, and a way."""

    def __init__(self, way):
        self.way = way
        self.rules = []

    def holding(self, point):
        """The rules that hold at a point, rising."""
        return [which for which, rule in enumerate(self.rules) if rule.holds(point)]

    def decision(self, held):
        """What is decided where just these rules hold."""
        return decided(self.way, [self.rules[which].says for which in held])


class House:
    """How many values points have, and the tables."""

    def __init__(self):
        self.width = 1
        self.tables = [Table(0), Table(0)]

    def has_table(self, table):
        return table < len(self.tables)

    def begins(self, width, first, second):
        if not 1 <= width <= MOST_VALUES or max(first, second) > HIGHEST_WAY:
            return [WRONG]
        self.width = width
        self.tables = [Table(first), Table(second)]
        return [0]

    def rule(self, table, row):
        if not self.has_table(table):
            return [ABSENT]
        if not is_rule(row, self.width):
            return [WRONG]
        rules = self.tables[table].rules
        if len(rules) == MOST_RULES:
            return [FULL]
        rules.append(rule_from(row))
        return [len(rules) - 1]

    def drop(self, table, which):
        if not self.has_table(table):
            return [ABSENT]
        rules = self.tables[table].rules
        if which >= len(rules):
            return [ABSENT]
        rules.pop(which)
        return [len(rules)]

    def decides(self, table, point):
        if not self.has_table(table):
            return [ABSENT]
        if not is_point(point, self.width):
            return [WRONG]
        held = self.tables[table].holding(point)
        number = self.tables[table].decision(held)
        # Nothing and a clash are told alone, though at a clash there are rules that hold.
        if number < 0:
            return [number]
        return [number] + held

    def gaps(self, table):
        if not self.has_table(table):
            return [ABSENT]
        asked = self.tables[table]
        uncovered = [cell for cell in cells(asked.rules, self.width) if len(asked.holding(first_point(cell))) == 0]
        if len(uncovered) == 0:
            return [0]
        return [sum([size(cell) for cell in uncovered])] + first_point(uncovered[0])
