"""Joins, what a sound costs by itself, and the text that tells both."""

from kanaturn.lines import Fault, decimal, lines_in_parts, numbers_fault
from kanaturn.lines import MOST_COST, MOST_SORT, NO_FAULT, NO_SUCH_LINE, TOLD_BEFORE


class Joins:
    def __init__(self, alone, costs):
        self.alone = alone
        self.costs = costs

    def between(self, right, left):
        """What it costs that a piece of that left sort stands behind one of that right sort."""
        return self.costs.get((right, left), 0)

    def how_many_cost(self):
        return len([cost for cost in self.costs.values() if cost != 0])


def no_joins():
    return Joins(MOST_COST, {})


def read_numbers(line, parts, most):
    numbers = [decimal(part) for part in parts]
    kind = numbers_fault(numbers, most)
    if kind != NO_FAULT:
        raise Fault(line, kind)
    return numbers


def read_joins(text):
    """The joins that a text tells; a Fault is raised if it's wrong."""
    lines = lines_in_parts(text)
    if not lines:
        raise Fault(0, NO_SUCH_LINE)
    alone = read_numbers(0, lines[0], (MOST_COST,))[0]
    costs = {}
    for line, parts in enumerate(lines[1:], start=1):
        numbers = read_numbers(line, parts, (MOST_SORT, MOST_SORT, MOST_COST))
        sorts = (numbers[0], numbers[1])
        if sorts in costs:
            raise Fault(line, TOLD_BEFORE)
        # A join of 0 is kept too: told again, it's a fault.
        costs[sorts] = numbers[2]
    return Joins(alone, costs)
