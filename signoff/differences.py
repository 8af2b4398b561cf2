"""Systems of inequalities between differences of unknown integers."""


def least_values(many, rows):
    """The least integers from 0 on that satisfy a system, or rows that contradict each other.

    Each row (x, y, most) says that unknown x minus unknown y is at most so much. Unknown 0 is 0,
    and the rows say of each other one that it is at least 0. Returns a pair: the list of the
    unknowns, or None, and the list of the indexes of rows that contradict each other, or None.
    In that one, the y of each row is the x of the next one, and the y of the last that of the first.
    """
    values = [0] * many
    causes = [None] * many
    raised = None
    # In so many rounds all values come to rest, if rows do not drive each other on and on.
    for _ in range(many):
        raised = None
        for k, (x, y, most) in enumerate(rows):
            if values[x] - most > values[y]:
                values[y] = values[x] - most
                causes[y] = k
                raised = y
        if raised is None:
            return values, None
    return None, _closed_row(rows, causes, raised, many)


def _closed_row(rows, causes, raised, many):
    """The rows that drive each other on, where `causes` has the row that raised each unknown last."""
    at = raised
    # The way back from what was raised so late leads into a closed row, in so many steps surely.
    for _ in range(many):
        at = rows[causes[at]][0]
    found = [causes[at]]
    while rows[found[-1]][0] != at:
        found.append(causes[rows[found[-1]][0]])
    return found[::-1]
