"""The longest rows of dolls in which each may follow those before it."""


def longer_rows(rows, count, may_follow):
    longer = []
    for row in rows:
        for doll in range(count):
            if may_follow(row, doll):
                longer.append(row + [doll])
    return longer


def first_longest_row(count, may_follow):
    """Of the longest rows the one with the lower doll where they first differ.

    may_follow(row, doll) tells whether the doll may stand behind the row; it must let no row grow for ever.
    """
    rows = [[]]
    longer = longer_rows(rows, count, may_follow)
    # Rows of one length stay in order: each is made longer by its lower dolls first.
    while len(longer) > 0:
        rows = longer
        longer = longer_rows(rows, count, may_follow)
    return rows[0]
