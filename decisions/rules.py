"""Points and rules: which rows tell one, and where a rule holds.

A point is a list of values. A range is a tuple of its first and its last.
"""

HIGHEST_VALUE = 100
HIGHEST_NUMBER = 1000


class Rule:
    """What a rule says, and its ranges, one for each value."""

    def __init__(self, says, ranges):
        self.says = says
        self.ranges = ranges

    def holds(self, point):
        for span, value in zip(self.ranges, point):
            if not span[0] <= value <= span[1]:
                return False
        return True

    def meets(self, other):
        """Whether there is a point at which both hold."""
        return all([max(span[0], against[0]) <= min(span[1], against[1])
                    for span, against in zip(self.ranges, other.ranges)])


def is_point(row, width):
    return len(row) == width and all([value <= HIGHEST_VALUE for value in row])


def is_range(span):
    return span[0] <= span[1] <= HIGHEST_VALUE


def is_rule(row, width):
    if len(row) != 1 + 2 * width or row[0] > HIGHEST_NUMBER:
        return False
    return all([is_range(span) for span in ranges_in(row)])


def ranges_in(row):
    return [(row[at], row[at + 1]) for at in range(1, len(row), 2)]


def rule_from(row):
    return Rule(row[0], ranges_in(row))
