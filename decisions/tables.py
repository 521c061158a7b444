"""The calls on one new house, read from one list of whole numbers and answered in another."""

from decisions.house import House

BEGINS = 0
RULE = 1
DROP = 2
DECIDES = 3
GAPS = 4
OVERLAPS = 5
IDLE = 6
SAME = 7
COUNTS = 8
NEAREST = 9

# How many whole numbers stand behind a call's number, ahead of its row if it has one.
NUMBERS_OF_CALL = {0: 3, 1: 1, 2: 2, 3: 1, 4: 1, 5: 1, 6: 1, 7: 0, 8: 1, 9: 2}


def answers(calls):
    """For each call, in order: how many numbers are answered, then these."""
    house = House()
    told = []
    start = 0
    while start < len(calls):
        end = end_of_call(calls, start)
        answer = answer_to(house, calls[start:end])
        told.append(len(answer))
        told.extend(answer)
        start = end
    return told


def end_of_call(calls, start):
    kind = calls[start]
    end = start + 1 + NUMBERS_OF_CALL[kind]
    if kind == RULE or kind == DECIDES or kind == NEAREST:
        end = end + 1 + calls[end]
    return end


def answer_to(house, call):
    kind = call[0]
    if kind == BEGINS:
        return house.begins(call[1], call[2], call[3])
    if kind == RULE:
        return house.rule(call[1], call[3:])
    if kind == DROP:
        return house.drop(call[1], call[2])
    if kind == DECIDES:
        return house.decides(call[1], call[3:])
    if kind == SAME:
        return house.same()
    if kind == NEAREST:
        return house.nearest(call[1], call[2], call[4:])
    return answer_of_table(house, kind, call[1])


def answer_of_table(house, kind, table):
    """The answer to a call that has nothing but a table."""
    if kind == GAPS:
        return house.gaps(table)
    if kind == OVERLAPS:
        return house.overlaps(table)
    if kind == IDLE:
        return house.idle(table)
    return house.counts(table)
