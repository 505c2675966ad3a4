"""All orders in which cages can be gone to."""


def one_longer(rows, cages):
    """Each row with each cage that isn't in it behind it."""
    longer = []
    for row in rows:
        for i in cages:
            if i not in row:
                longer.append(row + [i])
    return longer


def all_rows(cages):
    """Each order of these cages."""
    rows = [[]]
    while len(rows[0]) < len(cages):
        rows = one_longer(rows, cages)
    return rows
