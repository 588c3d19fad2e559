"""How many trees a map has.

They are counted by a determinant (the matrix tree theorem): of the table that
has a row and a column for each place but the root. Where a place meets itself
stands how many roads lead into it; where it meets another one, with a minus,
how many of these come from there.
"""


def how_many(chart):
    """The number of trees, 0 where there is none."""
    return determinant(table_of_roads(chart))


def table_of_roads(chart):
    """The rows of that table, places rising."""
    root = chart.begin()
    places = [place for place in range(chart.size()) if place != root]
    table = {place: {other: 0 for other in places} for place in places}
    for begin, goal, _ in chart.roads():
        if goal != root:
            table[goal][goal] += 1
            if begin != root:
                table[goal][begin] -= 1
    return [list(row.values()) for row in table.values()]


def determinant(rows):
    """The determinant of such a table, by whole numbers alone.

    Each step takes off the first row and column; what it divides by goes into
    all numbers without a rest (Bareiss).
    """
    before = 1
    while rows:
        first = rows[0]
        # The corner counts the ways to lead to the places taken off so far, and to
        # this one, from all others. Where there are none, no tree leads to them.
        corner = first[0]
        if corner == 0:
            return 0
        rows = [
            [(corner * row[at] - row[0] * first[at]) // before for at in range(1, len(row))]
            for row in rows[1:]
        ]
        before = corner
    return before
