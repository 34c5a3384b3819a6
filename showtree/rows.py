"""The rows of a showing, written from the steps of the search."""


def rows_from(search, found, number):
    """List rows of which the last shows a part with nothing given; found is the theory of nothing."""
    writer = Writer(search.parts)
    shown = {}
    writer.write(found, (), shown)
    return needed_rows(writer.rows, shown[number])


class Writer:
    """Writes rows.

    The given ones are numbers of parts here, rising. For each of them that were
    met, places tells of each part that they show the number of a row that shows it.
    """

    def __init__(self, statements):
        self.statements = statements
        self.rows = []
        self.places = {}

    def write(self, found, given, shown):
        """Write a row for each step of a theory; shown tells the rows of the parts that it began with."""
        for number, rule, ups in found.steps:
            rows = tuple([self.row_of(up, given, shown) for up in ups])
            shown[number] = self.put(given, number, rule, rows)

    def row_of(self, up, given, shown):
        """The number of the row of an up of a step."""
        number, supposed, inner = up
        if inner is None:
            return shown[number]
        # With the same given ones the same parts are shown, whichever theory came to them first.
        wider = tuple(sorted(given + (supposed,)))
        if wider not in self.places:
            # What the outer rows show they show with less given, so these rows may come of them.
            places = dict(shown)
            places[supposed] = self.put(wider, supposed, "given", ())
            self.write(inner, wider, places)
            self.places[wider] = places
        return self.places[wider][number]

    def put(self, given, number, rule, ups):
        """Add a row, and tell its number."""
        self.rows.append((tuple([self.statements[one] for one in given]), self.statements[number], rule, ups))
        return len(self.rows) - 1


def needed_rows(rows, last):
    """List the row that is to be the last and all of which it comes, numbered anew."""
    needed = [False] * last + [True]
    for number in range(last, -1, -1):
        if needed[number]:
            for up in rows[number][3]:
                needed[up] = True
    kept = []
    places = {}
    for number in range(last + 1):
        if needed[number]:
            given, statement, rule, ups = rows[number]
            places[number] = len(kept)
            kept.append((given, statement, rule, tuple([places[up] for up in ups])))
    return kept
