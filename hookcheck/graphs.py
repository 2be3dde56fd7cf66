"""Schedules of tables: their ends, conflicts and fights, and the ranks and marks that rule them out."""


def effective_moves(table, state):
    """Return the list of (place, move) of the effective moves of a state; from out nothing goes on."""
    if state == "out":
        return []
    return [(place, move) for place, move in enumerate(table[state]) if move is not None]


def first_schedules(table, state):
    """Return the list of (schedule, where it leads) in the order of schedules.

    There is one for each state, and for "out", to which a schedule from the state leads that is not empty.
    """
    found = [((), state)]
    known = {}
    place = 0
    while place < len(found):
        schedule, reached = found[place]
        place += 1
        for number, move in effective_moves(table, reached):
            if move not in known:
                known[move] = True
                found.append((schedule + (number,), move))
    return found[1:]


def ends_from(table, state):
    """Return (schedule, end) for each end of the state, with the first schedule that has this end, in order."""
    found = [((), state)] + first_schedules(table, state)
    # A state at rest has no other schedule than the empty one, so nothing is told twice.
    return tuple([(schedule, reached) for schedule, reached in found if not effective_moves(table, reached)])


def table_conflict(table):
    """Return (state, (schedule, end), (schedule, end)) for the least state with two or more ends, or None."""
    for state in range(len(table)):
        ends = ends_from(table, state)
        if len(ends) > 1:
            return (state, ends[0], ends[1])
    return None


def table_fight(table):
    """Return (state, schedule) for the first of the shortest schedules that lead back, or None."""
    best = None
    for state in range(len(table)):
        for schedule, reached in first_schedules(table, state):
            if reached == state and (best is None or len(schedule) < len(best[1])):
                best = (state, schedule)
    return best


def heights(table):
    """Return for each state the number of moves of the longest schedules from it, or None if there is a fight."""
    longest = (0,) * len(table)
    # A schedule that is longer than there are rows comes back to a state.
    for _ in range(len(table) + 1):
        longer = tuple([height_above(table, state, longest) for state in range(len(table))])
        if longer == longest:
            return longest
        longest = longer
    return None


def height_above(table, state, ranks):
    """Return the least rank of the state that is above those of the states to which its moves lead."""
    return max([0] + [1 if move == "out" else ranks[move] + 1 for _, move in effective_moves(table, state)])


def takes_ranks(table, ranks):
    """Tell whether the ranks are taken for the table."""
    if len(ranks) != len(table):
        return False
    return all([rank >= height_above(table, state, ranks) for state, rank in enumerate(ranks)])


def end_marks(table):
    """Return for each state "open" or its only end, or None if there is a conflict."""
    marks = []
    for state in range(len(table)):
        ends = ends_from(table, state)
        if len(ends) > 1:
            return None
        marks.append(ends[0][1] if ends else "open")
    return tuple(marks)


def takes_marks(table, marks):
    """Tell whether the marks are taken for the table."""
    if len(marks) != len(table):
        return False
    return all([takes_mark(table, marks, state) for state in range(len(table))])


def takes_mark(table, marks, state):
    """Tell whether the mark of the state suits those of the states to which its moves lead."""
    # Out counts as a state with the mark "out" here. The mark "open" needs no case of its own: it is
    # no number, so it never suits a state at rest, and it is the only mark behind it that is the same.
    behind = ["out" if move == "out" else marks[move] for _, move in effective_moves(table, state)]
    if not behind:
        return marks[state] == state
    return all([mark == "open" or mark == marks[state] for mark in behind])
