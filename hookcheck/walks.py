"""Plans and rounds of tables, and states that are told apart."""


def walk(table, plan, state):
    """Return (status, state at the end, passes, calls) of the plan of the table run from the state."""
    first, again, limit = plan
    current, calls, _, out = moved(table, first, state)
    passes = 0
    going = again != ()
    while going and passes < limit and not out:
        passes += 1
        current, made, going, out = moved(table, again, current)
        calls += made
    # Passes that go on although as many were made as the limit tells are those of an unsettled run.
    status = "unsettled" if going and passes > 0 else "admitted"
    return ("rejected" if out else status, current, passes, calls)


def moved(table, places, state):
    """Make the moves at the places, up to one that is "out", from the state.

    Return (state at the end, number of moves made, whether one is effective, whether the last one is "out").
    """
    current = state
    effective = False
    for number, place in enumerate(places):
        move = table[current][place]
        if move == "out":
            return (current, number + 1, True, True)
        if move is not None:
            current = move
            effective = True
    return (current, len(places), effective, False)


def round_ends(table):
    """Return for each state the end of its round, or None if the round goes on for ever."""
    return tuple([round_end(table, state) for state in range(len(table))])


def round_end(table, state):
    """Return the end of the round from the state, or None."""
    places = tuple(range(len(table[0])))
    begun = [state]
    # More passes than there are states begin twice in the same one.
    while len(begun) <= len(table):
        current, _, effective, out = moved(table, places, begun[-1])
        if out:
            return "out"
        if not effective:
            return current
        begun.append(current)
    return None


def kind_of(move):
    """Return what has to be the same of two moves that go alike."""
    return "number" if isinstance(move, int) else move


def tell_apart(table, first, second):
    """Return the first tuple of places that tells the two states apart, or None if they behave alike."""
    found = [((), first, second)]
    known = {(first, second): True}
    number = 0
    while number < len(found):
        places, one, other = found[number]
        number += 1
        for place, (move, counterpart) in enumerate(zip(table[one], table[other])):
            if kind_of(move) != kind_of(counterpart):
                return places + (place,)
            if isinstance(move, int) and (move, counterpart) not in known:
                known[(move, counterpart)] = True
                found.append((places + (place,), move, counterpart))
    return None


def classes(table):
    """Return for each state the number of its class."""
    finer = numbered([tuple([kind_of(move) for move in row]) for row in table])
    found = ()
    while finer != found:
        found = finer
        finer = numbered([(found[state], classes_behind(row, found)) for state, row in enumerate(table)])
    return found


def classes_behind(row, found):
    """Return the classes of the states to which the moves of the row lead; None for the other moves."""
    return tuple([found[move] if isinstance(move, int) else None for move in row])


def numbered(things):
    """Return for each thing a number; equal ones have the same, in the order in which they are first there."""
    numbers = {}
    for thing in things:
        numbers.setdefault(thing, len(numbers))
    return tuple([numbers[thing] for thing in things])
