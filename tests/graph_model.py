"""What the points 162 to 169 say of tables, word by word: by going through the schedules, or their least ones."""

import itertools


def effective(table, state):
    """The pairs (place, move) of the moves that are not None; out has none."""
    row = () if state == "out" else table[state]
    return [(place, move) for place, move in enumerate(row) if move is not None]


def schedules(table, state, most):
    """All schedules of so many moves at most, in their order, each with the state to which it leads, or "out"."""
    layer = [((), state)]
    for _ in range(most + 1):
        yield from layer
        layer = [
            (schedule + (place,), move) for schedule, reached in layer for place, move in effective(table, reached)
        ]


def least_schedules(table, state, most):
    """For each number of moves up to most a dict: where schedules of just so many moves lead, and the first of them."""
    layer = {state: ()}
    for _ in range(most + 1):
        yield layer
        longer = {}
        for reached, schedule in layer.items():
            for place, move in effective(table, reached):
                candidate = schedule + (place,)
                if move not in longer or candidate < longer[move]:
                    longer[move] = candidate
        layer = longer


def ends_by_words(table, state, every=True):
    """The pairs (schedule, end); by all schedules, or by the least ones of each length."""
    first = {}
    if every:
        for schedule, reached in schedules(table, state, len(table)):
            if not effective(table, reached):
                first.setdefault(reached, schedule)
    else:
        for layer in least_schedules(table, state, len(table)):
            for reached, schedule in layer.items():
                if not effective(table, reached):
                    first.setdefault(reached, schedule)
    return tuple(sorted([(first[end], end) for end in first], key=lambda pair: (len(pair[0]), pair[0])))


def conflict_by_words(table, every=True):
    for state in range(len(table)):
        ends = ends_by_words(table, state, every)
        if len(ends) > 1:
            return (state, ends[0], ends[1])
    return None


def fight_by_words(table):
    found = []
    for state in range(len(table)):
        for layer in itertools.islice(least_schedules(table, state, len(table)), 1, None):
            if state in layer:
                found.append((len(layer[state]), state, layer[state]))
    return min(found)[1:] if found else None


def heights_by_words(table):
    if fight_by_words(table) is not None:
        return None
    return tuple([len(list(least_schedules(table, state, len(table)))) - 1 - empty_layers(table, state)
                  for state in range(len(table))])


def empty_layers(table, state):
    return len([layer for layer in least_schedules(table, state, len(table)) if not layer])


def ranks_by_words(table, ranks):
    if len(ranks) != len(table):
        return False
    for state, row in enumerate(table):
        for move in row:
            if move == "out" and ranks[state] < 1:
                return False
            if move not in (None, "out") and ranks[state] <= ranks[move]:
                return False
    return True


def marks_by_words(table, marks):
    if len(marks) != len(table):
        return False
    for state, (row, mark) in enumerate(zip(table, marks)):
        at_rest = all(move is None for move in row)
        numbers = [move for move in row if isinstance(move, int)]
        if mark == "open":
            if at_rest or "out" in row or any(marks[move] != "open" for move in numbers):
                return False
        else:
            if at_rest and mark != state:
                return False
            if "out" in row and mark != "out":
                return False
            if any(marks[move] not in ("open", mark) for move in numbers):
                return False
    return True


def end_marks_by_words(table, every=True):
    ends = [ends_by_words(table, state, every) for state in range(len(table))]
    if any(len(told) > 1 for told in ends):
        return None
    return tuple([told[0][1] if told else "open" for told in ends])


def all_tables(rows, moves):
    """All tables with so many rows and so many moves."""
    each = list(itertools.product([None, "out"] + list(range(rows)), repeat=moves))
    return itertools.product(each, repeat=rows)


def random_table(dice, rows, moves, back=0.3):
    """A random table; moves to rows that do not come later are rare."""
    table = []
    for number in range(rows):
        row = []
        for _ in range(moves):
            ahead = range(number + 1, rows) if number + 1 < rows and not dice.chance(back) else range(rows)
            near = [move for move in ahead if abs(move - number) < 6]
            row.append(dice.one([None, None, "out" if dice.chance(0.1) else None, dice.one(near), dice.one(near)]))
        table.append(tuple(row))
    return tuple(table)


def walk_by_words(table, plan, state):
    """(status, state at the end, passes, calls); the calls of all passes are planned, and made as far as they go."""
    first, again, limit = plan
    planned = [(0, place) for place in first]
    if again:
        planned += [(number, place) for number in range(1, limit + 1) for place in again]
    passes, effective = 0, False
    for calls, (number, place) in enumerate(planned):
        if number != passes:
            if number > 1 and not effective:
                return ("admitted", state, passes, calls)
            passes, effective = number, False
        move = table[state][place]
        if move == "out":
            return ("rejected", state, passes, calls + 1)
        if move is not None:
            state, effective = move, True
    return ("unsettled" if passes and effective else "admitted", state, passes, len(planned))


def round_by_words(table, state):
    """The end of the round, or None after more passes than there can be different ones."""
    for _ in range(len(table) + 2):
        effective = False
        for place in range(len(table[0])):
            move = table[state][place]
            if move == "out":
                return "out"
            if move is not None:
                state, effective = move, True
        if not effective:
            return state
    return None


def tells_apart(table, first, second, places):
    """Whether the tuple of places tells the two states apart."""
    states = [first, second]
    for number, place in enumerate(places):
        moves = [table[state][place] for state in states]
        kinds = [move if move in (None, "out") else "number" for move in moves]
        if number == len(places) - 1:
            return kinds[0] != kinds[1]
        if kinds[0] != kinds[1] or kinds[0] == "out":
            return False
        states = [state if move is None else move for state, move in zip(states, moves)]
    return False


def tell_apart_by_words(table, first, second):
    for many in range(1, len(table) + 1):
        for places in itertools.product(range(len(table[0])), repeat=many):
            if tells_apart(table, first, second, places):
                return places
    return None


def classes_by_words(table):
    """The numbers of the classes, found by all pairs."""
    found = []
    for state in range(len(table)):
        alike = [other for other in range(state) if tell_apart_by_words(table, other, state) is None]
        found.append(found[alike[0]] if alike else len(set(found)))
    return tuple(found)
