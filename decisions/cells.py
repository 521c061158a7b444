"""All points, parted into cells within each of which the same rules hold.

There are over a million points, but at most 13 * 13 * 13 cells for one table's 6 rules and 25 * 25 * 25 for both
tables' 12, so one point of each cell is looked at.
A cell is a list of ranges, one for each value.
"""

from decisions.rules import HIGHEST_VALUE


def spans(rules, place):
    """The ranges of one value, rising, that no rule's range begins or ends within."""
    starts = [0, HIGHEST_VALUE + 1]
    for rule in rules:
        starts.append(rule.ranges[place][0])
        starts.append(rule.ranges[place][1] + 1)
    starts = sorted(set(starts))
    return [(starts[k], starts[k + 1] - 1) for k in range(len(starts) - 1)]


def cells(rules, width):
    """The cells in the order of their first points."""
    parted = [[]]
    for place in range(width):
        parted = lengthened(parted, spans(rules, place))
    return parted


def lengthened(shorter, ranges):
    longer = []
    for cell in shorter:
        longer.extend([cell + [span] for span in ranges])
    return longer


def first_point(cell):
    return [span[0] for span in cell]


def size(cell):
    points = 1
    for span in cell:
        points = points * (span[1] - span[0] + 1)
    return points


def nearest_point(cell, point):
    """The point of a cell that is nearest to another; there is just one, as each value has just one."""
    return [min(max(value, span[0]), span[1]) for span, value in zip(cell, point)]


def distance(one, other):
    return sum([abs(value - against) for value, against in zip(one, other)])
