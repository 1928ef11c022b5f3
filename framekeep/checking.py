"""The check that a program passes before it runs."""

from framekeep.instructions import LEAVE_OUT_IF_NO, LEAVE_OUT_IF_YES, END

MOST_INSTRUCTIONS = 256
MOST_VALUES = 32

# By an instruction's first number: the least and the greatest second number,
# how many values it takes, and how many more there are behind it.
LEAST = (0, 0, 1, 0, 0, 0, 0, 0, 0)
GREATEST = (18446744073709551615, 0, 8, 6, 5, 0, 18446744073709551615, 18446744073709551615, 0)
TAKEN = (0, 0, 1, 2, 2, 1, 1, 1, 1)
GAINED = (1, 1, 0, -1, -1, 0, -1, -1, -1)


def wrong_place(program):
    """The place of the instruction that is wrong, or -1 if none is."""
    if len(program) > MOST_INSTRUCTIONS:
        return MOST_INSTRUCTIONS
    if len(program) == 0:
        return 0
    known = [None for instruction in program]
    known[0] = 0
    for place, instruction in enumerate(program):
        if not can_be_done(instruction, known[place]):
            return place
        if not goes_on_well(ways_on(place, instruction, known[place]), known):
            return place
    return -1


def can_be_done(instruction, found):
    """Whether it is an instruction, is come to, and finds the values that it takes."""
    code = instruction[0]
    if not 0 <= code < len(TAKEN):
        return False
    if not LEAST[code] <= instruction[1] <= GREATEST[code]:
        return False
    return found is not None and found >= TAKEN[code]


def ways_on(place, instruction, found):
    """Where the instruction may go on, each with how many values are there then."""
    code = instruction[0]
    if code == END:
        return []
    ways = [(place + 1, found + GAINED[code])]
    if code == LEAVE_OUT_IF_NO or code == LEAVE_OUT_IF_YES:
        ways.append((place + 1 + instruction[1], found))
    return ways


def goes_on_well(ways, known):
    """Notes in known what the ways tell; False if one of them may not be gone."""
    for target, values in ways:
        if target >= len(known) or values > MOST_VALUES:
            return False
        if known[target] is None:
            known[target] = values
        if known[target] != values:
            return False
    return True
