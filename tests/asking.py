"""Writes calls as the list that is handed in, and parts what is given back into one answer a call."""

from decisions.tables import answers

GREATEST = 4294967295


def begins(values, first=0, second=0):
    return [0, values, first, second]


def rule(table, *row):
    return [1, table, len(row), *row]


def drop(table, which):
    return [2, table, which]


def decides(table, *point):
    return [3, table, len(point), *point]


def gaps(table):
    return [4, table]


def parted(given):
    parts = []
    at = 0
    while at < len(given):
        parts.append(given[at + 1:at + 1 + given[at]])
        at += 1 + given[at]
    return parts


def ask(*calls):
    """One answer a call, each without its count."""
    line = [number for call in calls for number in call]
    assert len(calls) <= 60 and len(line) <= 900, "no such line is handed in"
    parts = parted(answers(line))
    assert len(parts) == len(calls), "not one answer a call"
    return parts


def last(*calls):
    return ask(*calls)[-1]
