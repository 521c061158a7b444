"""What is told of all points of tables; one point of each cell stands for all of it."""

from decisions.cells import cells, distance, first_point, nearest_point, size
from decisions.deciding import CLASH, NOTHING


def undecided(table, width):
    """The cells in which a table decides nothing."""
    return [cell for cell in cells(table.rules, width) if table.decision_at(first_point(cell)) == NOTHING]


def unlike(one, other, width):
    """The cells in which two tables don't decide the same."""
    unlike_cells = []
    for cell in cells(one.rules + other.rules, width):
        point = first_point(cell)
        if one.decision_at(point) != other.decision_at(point):
            unlike_cells.append(cell)
    return unlike_cells


def how_many_and_first(found):
    """How many points these cells have, then the first of them if there are any."""
    if len(found) == 0:
        return [0]
    return [sum([size(cell) for cell in found])] + first_point(found[0])


def overlapping(rules):
    """The pairs of rules that hold together somewhere, by the lower, then by the other one."""
    pairs = []
    for lower in range(len(rules)):
        for other in range(lower + 1, len(rules)):
            if rules[lower].meets(rules[other]):
                pairs.append((lower, other))
    return pairs


def idle_rules(table, width):
    """The rules, rising, without any one of which the table decides the same in each cell."""
    idle = list(range(len(table.rules)))
    for cell in cells(table.rules, width):
        held = table.holding(first_point(cell))
        number = table.decision(held)
        idle = [which for which in idle if table.decision(without(which, held)) == number]
    return idle


def without(left_out, held):
    return [which for which in held if which != left_out]


def counted(table, width):
    """At how many points nothing is decided, at how many it's a clash, at how many a number."""
    nothing = 0
    clashing = 0
    numbered = 0
    for cell in cells(table.rules, width):
        number = table.decision_at(first_point(cell))
        if number == NOTHING:
            nothing = nothing + size(cell)
        elif number == CLASH:
            clashing = clashing + size(cell)
        else:
            numbered = numbered + size(cell)
    return [nothing, clashing, numbered]


def nearest_deciding(table, number, point):
    """How far the nearest point is at which the number is decided, then it; an empty list if there is none."""
    found = []
    for cell in cells(table.rules, len(point)):
        if table.decision_at(first_point(cell)) == number:
            near = nearest_point(cell, point)
            found.append([distance(near, point)] + near)
    # Lists are held against one another as points are, so of as near ones the least is the first.
    return min(found, default=[])
