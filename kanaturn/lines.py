"""What a lexicon's text and the joins' text have in common: lines, parts, numbers, faults."""

from kanaturn.characters import BLANK

LINE_END = 0x0A
DIGIT_FIRST = 0x30
DIGIT_LAST = 0x39

MOST_SORT = 255
MOST_COST = 65535
NO_NUMBER = -1

NO_FAULT = 0
NO_SUCH_LINE = 1
TOO_MUCH = 2
TOLD_BEFORE = 3
TOO_MANY_LINES = 4


class Fault(ValueError):
    """The first wrong line of a text, and the least kind of what's wrong with it."""

    def __init__(self, line, kind):
        self.line = line
        self.kind = kind


def split_row(row, sign):
    """The stretches of a row between the places where a sign stands."""
    stretches = [[]]
    for number in row:
        if number == sign:
            stretches.append([])
        else:
            stretches[-1].append(number)
    return stretches


def lines_in_parts(text):
    """The parts of each line of a text."""
    lines = split_row(text, LINE_END)
    rest = lines.pop()
    parted = [split_row(line, BLANK) for line in lines]
    if rest:
        # A last line with no end is never right, whatever it says: no line has no part at all.
        parted.append([])
    return parted


def decimal(part):
    """The number that a part writes, or NO_NUMBER; all those above MOST_COST count as one more than it."""
    if not part or (part[0] == DIGIT_FIRST and len(part) > 1):
        return NO_NUMBER
    value = 0
    for byte in part:
        if not DIGIT_FIRST <= byte <= DIGIT_LAST:
            return NO_NUMBER
        # Held down here, so that thousands of digits never make a huge number.
        value = min(value * 10 + byte - DIGIT_FIRST, MOST_COST + 1)
    return value


def numbers_fault(numbers, most):
    """What's wrong with a line's numbers, each of which has a most."""
    if len(numbers) != len(most) or NO_NUMBER in numbers:
        return NO_SUCH_LINE
    if any([number > limit for number, limit in zip(numbers, most)]):
        return TOO_MUCH
    return NO_FAULT
