"""What a table decides, by its way, where some of its rules hold."""

HIGHEST_WAY = 3

FIRST_ONE = 0
ALL_AGREE = 1
GREATEST = 2

NOTHING = -6
CLASH = -9


def decided(way, said):
    """The number decided, NOTHING or CLASH; said is what the rules that hold say, in the rules' order."""
    if len(said) == 0:
        return NOTHING
    if way == FIRST_ONE:
        return said[0]
    if way == ALL_AGREE:
        return said[0] if min(said) == max(said) else CLASH
    if way == GREATEST:
        return max(said)
    return sum(said)
