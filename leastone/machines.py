"""Machines over the letters 0 to k - 1, and the least one that takes the same words.

A machine is handed round as two lists: rows, k numbers for each state, and takes, one for each.
"""

OUT_OF_RANGE = -2
NO_MACHINE = -3

MOST_LETTERS = 16
MOST_STATES = 64


def least(k, n, rows, takes):
    """Give the least machine that is the same: how many states, then its rows, then its takes."""
    if not (1 <= k <= MOST_LETTERS and 1 <= n <= MOST_STATES):
        return [OUT_OF_RANGE]
    if not is_machine(n, rows, takes):
        return [NO_MACHINE]
    order = reached_states(k, rows)
    groups = alike_states(k, rows, takes, order)
    return joined_machine(k, rows, takes, order, groups)


def is_machine(n, rows, takes):
    """Tell whether all in rows are states and all in takes are 0 or 1."""
    for state in rows:
        if not 0 <= state < n:
            return False
    for taken in takes:
        if taken not in (0, 1):
            return False
    return True


def row_of(k, rows, state):
    """Give the states that the letters lead to from a state, letter by letter."""
    return rows[k * state:k * state + k]


def reached_states(k, rows):
    """List the states that some word leads to, in the order of the first words that do."""
    order = [0]
    seen = {0: True}
    done = 0
    # A state's first word is the first word of an earlier state and one letter: so going through
    # the list in its own order, letter by letter, finds the states in the order of their words.
    while done < len(order):
        for state in row_of(k, rows, order[done]):
            if state not in seen:
                seen[state] = True
                order.append(state)
        done = done + 1
    return order


def alike_states(k, rows, takes, order):
    """Number the states of order, those alike that take the same words from there on."""
    groups = number_marks(order, takes)
    finer = split_groups(k, rows, order, groups)
    # Groups are numbered as they first come in order, so an unchanged split has the very same numbers.
    while finer != groups:
        groups = finer
        finer = split_groups(k, rows, order, groups)
    return groups


def split_groups(k, rows, order, groups):
    """Part the states of a group that some letter leads to different groups."""
    marks = {}
    for state in order:
        ahead = [groups[there] for there in row_of(k, rows, state)]
        marks[state] = (groups[state], tuple(ahead))
    return number_marks(order, marks)


def number_marks(order, marks):
    """Number the states by their marks, from 0 on, as the marks first come in order."""
    numbers = {}
    groups = {}
    for state in order:
        groups[state] = numbers.setdefault(marks[state], len(numbers))
    return groups


def joined_machine(k, rows, takes, order, groups):
    """Tell the machine whose states are the groups: how many there are, its rows, its takes."""
    new_rows = []
    new_takes = []
    for state in order:
        # The groups come in the order of their numbers: this one's number tells if it is new.
        if groups[state] == len(new_takes):
            new_rows.extend([groups[there] for there in row_of(k, rows, state)])
            new_takes.append(takes[state])
    return [len(new_takes)] + new_rows + new_takes
