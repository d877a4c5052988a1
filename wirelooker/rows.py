"""Rows of numbers held against one another, step by step, at the least cost."""

from wirelooker.basics import is_whole, word_of

UNLIKE = 1
LACK = 1
MORE = 1
# How many numbers of the one, and of the other, each step goes through.
GOES = {"same": (1, 1), "unlike": (1, 1), "lack": (1, 0), "more": (0, 1)}


def held(one, other, *, unlike=UNLIKE, lack=LACK, more=MORE):
    """The least cost of steps through both rows, such steps, and a table that shows that none cost less."""
    costs = {"same": 0, "unlike": unlike, "lack": lack, "more": more}
    table = _table_of(one, other, costs)
    return (table[-1][-1], _steps_by(one, other, table, costs), table)


def held_right(one, other, some, *, unlike=UNLIKE, lack=LACK, more=MORE):
    """Whether some cost, steps and table show how two rows are held against one another at the least cost."""
    costs = {"same": 0, "unlike": unlike, "lack": lack, "more": more}
    if not _has_form(some):
        return False
    cost, steps, table = some
    if not _go_through(one, other, steps) or cost != sum([costs[step[0]] for step in steps]):
        return False
    return _rises_right(one, other, table, costs) and table[-1][-1] == cost


def _steps_to(one, other, i, j):
    """The steps that end behind the one's first i numbers and the other's first j, a list."""
    steps = []
    if i > 0 and j > 0:
        steps.append(("same" if one[i - 1] == other[j - 1] else "unlike", i - 1, j - 1))
    if i > 0:
        steps.append(("lack", i - 1))
    if j > 0:
        steps.append(("more", j - 1))
    return steps


def _behind(table, costs, step, i, j):
    """What a table allows at i and j by a step that ends there: its number ahead of the step, and the step's cost."""
    over, under = GOES[step[0]]
    return table[i - over][j - under] + costs[step[0]]


def _table_of(one, other, costs):
    """For each i and j the least cost of the one's first i numbers and the other's first j, a tuple of tuples."""
    table = []
    for i in range(len(one) + 1):
        table.append([])
        for j in range(len(other) + 1):
            ways = [_behind(table, costs, step, i, j) for step in _steps_to(one, other, i, j)]
            table[i].append(min(ways, default=0))
    return tuple([tuple(row) for row in table])


def _steps_by(one, other, table, costs):
    """Steps through both rows that cost what the table of the least costs ends with, a tuple."""
    steps = []
    i = len(one)
    j = len(other)
    while i > 0 or j > 0:
        ways = [step for step in _steps_to(one, other, i, j) if _behind(table, costs, step, i, j) == table[i][j]]
        over, under = GOES[ways[0][0]]
        steps.append(ways[0])
        i -= over
        j -= under
    return tuple(steps[::-1])


def _has_form(thing):
    """Whether a thing is a whole number, a tuple of steps and a tuple of tuples of whole numbers."""
    if not isinstance(thing, tuple) or len(thing) != 3 or not is_whole(thing[0]):
        return False
    _, steps, table = thing
    if not isinstance(steps, tuple) or not all([_is_step(step) for step in steps]):
        return False
    return isinstance(table, tuple) and all([isinstance(row, tuple) and _are_whole(row) for row in table])


def _is_step(thing):
    return word_of(thing) in GOES and _are_whole(thing[1:])


def _are_whole(things):
    return all([is_whole(thing) for thing in things])


def _go_through(one, other, steps):
    """Whether steps go through both rows, from the first numbers to the last."""
    i = 0
    j = 0
    for step in steps:
        over, under = GOES[step[0]]
        i += over
        j += under
        if i > len(one) or j > len(other) or step not in _steps_to(one, other, i, j):
            return False
    return i == len(one) and j == len(other)


def _rises_right(one, other, table, costs):
    """Whether a table has a number for each i and j, begins with 0, and rises by no more than the steps cost."""
    if [len(row) for row in table] != [len(other) + 1 for _ in range(len(one) + 1)] or table[0][0] != 0:
        return False
    for i in range(len(one) + 1):
        for j in range(len(other) + 1):
            if not all([table[i][j] <= _behind(table, costs, step, i, j) for step in _steps_to(one, other, i, j)]):
                return False
    return True
