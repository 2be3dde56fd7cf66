"""Tests of scalars, scalars that are alike for tests, and pools of scalars that stand for all others."""

from hookcheck.documents import content_rank

# Beside these, only literals and numbers next to integers of the tests can be first or second of a class.
COMMON = (("null",), ("false",), ("true",), ("text", ""))


def passes(test, scalar):
    """Tell whether the scalar passes the test."""
    word, bound = test
    if word == "=":
        return scalar == bound
    if scalar[0] != "number":
        return False
    return scalar[1] < bound if word == "<" else scalar[1] > bound


def alike(tests, first, second):
    """Tell whether the two scalars pass the same tests."""
    return all([passes(test, first) == passes(test, second) for test in tests])


def pool_of(tests, many):
    """Return the first so many members of each class of alike scalars, ascending."""
    counts = {}
    pool = []
    for scalar in sorted(candidates(tests), key=content_rank):
        group = tuple([passes(test, scalar) for test in tests])
        counts[group] = counts.get(group, 0) + 1
        if counts[group] <= many:
            pool.append(scalar)
    return tuple(pool)


def candidates(tests):
    """Return the list of the scalars among which all members of pools are, each once."""
    found = {scalar: True for scalar in COMMON}
    integers = [0]
    for word, bound in tests:
        if word != "=":
            integers.append(bound)
            continue
        found[bound] = True
        if bound[0] == "number":
            integers.append(bound[1])
    for integer in integers:
        for number in range(integer - 2, integer + 3):
            found[("number", number)] = True
    return list(found)
