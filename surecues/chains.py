"""Chains of steps through facts: how long they are, and which ones are the shortest.

A fact is a tuple (first, second, least, most), and a step is a pair (number of a fact, truth
value). A row is a step with where it leads: (step, from, to, length).
"""

from surecues.numbers import ZERO, compare, negative, plus


def rows_of(facts):
    """The rows of all steps, in the order of the steps."""
    rows = []
    for at, (first, second, least, most) in enumerate(facts):
        rows.append(((at, True), first, second, most))
        rows.append(((at, False), second, first, negative(least)))
    return rows


def turned(rows):
    """The rows with each step led from its end to its beginning, with the same length."""
    return [(step, goal, start, length) for step, start, goal, length in rows]


def lengths_to(rows, goal):
    """For each moment, the length of its shortest chain to this one, and the number of its steps."""
    found = {goal: (ZERO, 0)}
    is_changed = True
    # This ends, since no chain that comes back to where it begins has a length below 0.
    while is_changed:
        is_changed = False
        for _, start, end, length in rows:
            if end not in found:
                continue
            left, count = found[end]
            total = (plus(length, left), count + 1)
            if start not in found or _is_shorter(total, found[start]):
                found[start] = total
                is_changed = True
    return found


def shortest_chain(facts, first, second):
    """The shortest chain from a moment to another one."""
    rows = rows_of(facts)
    found = lengths_to(rows, second)
    chain = []
    here = first
    while here != second:
        ways = [row for row in rows if row[1] == here and _is_on_shortest(row, found)]
        step, _, here, _ = ways[0]
        chain.append(step)
    return chain


def length_of(facts, chain, first, second):
    """The length of a chain from a moment to another one, or None if it is no such chain."""
    if not isinstance(chain, list):
        return None
    rows = rows_of(facts)
    here = first
    total = ZERO
    for step in chain:
        row = _row_of(rows, step)
        if row is None or row[1] != here:
            return None
        here = row[2]
        total = plus(total, row[3])
    return total if here == second else None


def _is_shorter(total, other):
    """Tells whether the first of two pairs (length, number of steps) comes ahead of the second."""
    order = compare(total[0], other[0])
    return order < 0 or (order == 0 and total[1] < other[1])


def _is_on_shortest(row, found):
    """Tells whether a chain with the least length and the fewest steps can begin with this row."""
    _, start, end, length = row
    left, count = found[end]
    return found[start] == (plus(length, left), count + 1)


def _row_of(rows, step):
    """The row of what may be a step, or None if there is no such step."""
    if not isinstance(step, tuple) or len(step) != 2:
        return None
    at, is_forth = step
    if type(at) is not int or type(is_forth) is not bool or not 0 <= at < len(rows) // 2:
        return None
    return rows[2 * at] if is_forth else rows[2 * at + 1]
