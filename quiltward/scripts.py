"""Scripts, which lead from one list of lines to another one, and levels, which tell how much they can keep."""


def kept_behind(one, other):
    """Return a table of how many lines can be kept of those from an index on in one list, and in the other one."""
    table = [[0] * (len(other) + 1)]
    for i in reversed(range(len(one))):
        below, row = table[-1], [0] * (len(other) + 1)
        for j in reversed(range(len(other))):
            row[j] = below[j + 1] + 1 if one[i] == other[j] else max(below[j], row[j + 1])
        table.append(row)
    return table[::-1]


def steps_between(one, other):
    """Return the script from one list of lines to another one, which keeps as many lines as possible."""
    table = kept_behind(one, other)
    steps, i, j = [], 0, 0
    while i < len(one) or j < len(other):
        if i < len(one) and j < len(other) and one[i] == other[j]:
            steps.append(("keep", i, j))
            i, j = i + 1, j + 1
        elif i < len(one) and table[i + 1][j] == table[i][j]:
            steps.append(("cut", i))
            i += 1
        else:
            steps.append(("put", j))
            j += 1
    return steps


def script_right(one, other, steps):
    """Return whether a list of steps is a script from one list to the other one."""
    i, j = 0, 0
    for step in steps:
        if step == ("keep", i, j) and i < len(one) and j < len(other) and one[i] == other[j]:
            i, j = i + 1, j + 1
        elif step == ("cut", i) and i < len(one):
            i += 1
        elif step == ("put", j) and j < len(other):
            j += 1
        else:
            return False
    return i == len(one) and j == len(other)


def kept(steps):
    """Return how many lines steps keep."""
    return len([step for step in steps if step[0] == "keep"])


def equal_pairs(one, other):
    """Return the list of the pairs of the indexes of equal lines, ascending."""
    return [(i, j) for i, line in enumerate(one) for j, text in enumerate(other) if line == text]


def levels(one, other):
    """Return the levels for two lists, as many as lines can be kept."""
    # What can be kept in front of two indexes is what can be kept behind them in the lists from the end.
    table = kept_behind(one[::-1], other[::-1])
    rows = [[] for _ in range(table[0][0])]
    for i, j in equal_pairs(one, other):
        rows[table[len(one) - i][len(other) - j]].append((i, j))
    return rows


def is_level(row):
    """Return whether no two pairs of a list are such that one has both the lesser i and the lesser j."""
    # By i ascending and j descending, such pairs are there exactly if j rises from one pair to the next one.
    falling = [-negative for _, negative in sorted([(i, -j) for i, j in row])]
    return all(falling[k] >= falling[k + 1] for k in range(len(falling) - 1))


def levels_right(one, other, rows):
    """Return whether levels for two lists are right."""
    left = {pair: True for pair in equal_pairs(one, other)}
    for row in rows:
        for pair in row:
            if pair not in left:
                return False
            del left[pair]
    return not left and all(is_level(row) for row in rows)


def fewest(one, other, steps, rows):
    """Return whether steps are a script that keeps as many lines as there are lists of right levels."""
    return script_right(one, other, steps) and levels_right(one, other, rows) and kept(steps) == len(rows)
