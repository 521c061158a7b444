"""Writes calls as the list that is handed in, and parts what is given back into one answer a call."""

from decisions.tables import answers

GREATEST = 4294967295


def begins(values, first=0, second=0):
    return [0, values, first, second]


def rule(table, *row):
    return [1, table, len(row), *row]


def drop(table, which):
    return [2, table, which]


def decides(table, *point):
    return [3, table, len(point), *point]


def gaps(table):
    return [4, table]


def overlaps(table):
    return [5, table]


def idle(table):
    return [6, table]


def same():
    return [7]


def counts(table):
    return [8, table]


def nearest(table, answer, *point):
    return [9, table, answer, len(point), *point]


def parted(given):
    parts = []
    at = 0
    while at < len(given):
        parts.append(given[at + 1:at + 1 + given[at]])
        at += 1 + given[at]
    return parts


def ask(*calls):
    """One answer a call, each without its count."""
    line = [number for call in calls for number in call]
    assert len(calls) <= 60 and len(line) <= 900, "no such line is handed in"
    assert sum(call[0] >= 4 for call in calls) <= 12, "no such line is handed in"
    parts = parted(answers(line))
    assert len(parts) == len(calls), "not one answer a call"
    return parts


def last(*calls):
    return ask(*calls)[-1]


def scattered_rows(seed, many, values, says=3):
    """Rows that differ from seed to seed and are the same each time; they say numbers below says."""
    rows = []
    for _ in range(many):
        seed = (seed * 1103515245 + 12345) % 2147483648
        row = [(seed >> 16) % says]
        for _ in range(values):
            seed = (seed * 1103515245 + 12345) % 2147483648
            ends = sorted(((seed >> 8) % 141 - 20, (seed >> 16) % 141 - 20))
            row += [min(max(end, 0), 100) for end in ends]
        rows.append(row)
    return rows
