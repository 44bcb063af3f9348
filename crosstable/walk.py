"""A table on its way: how it stands now, and the changes that led it there."""

from crosstable.tables import change_by_row, copied


def column_of(rows, place):
    return [row[place] for row in rows]


class Walk:
    def __init__(self, table):
        self.rows = copied(table)
        self.side = "row"
        self.changes = []

    # While the table lies on its other side, its columns are worked on as rows,
    # so that one way of working serves rows and columns alike.
    def tip_over(self):
        self.rows = [column_of(self.rows, place) for place in range(len(self.rows[0]))]
        self.side = "column" if self.side == "row" else "row"

    def make(self, change):
        change_by_row(self.rows, change)
        self.changes.append(change)

    def add_times(self, one, two, many):
        if many != 0:
            self.make(("add", self.side, one, two, many))

    def swap_rows(self, one, two):
        if one != two:
            self.make(("swap", self.side, one, two))

    def turn_row(self, one):
        self.make(("turn", self.side, one))

    # The rest nearest to nought, from below or above, takes fewer steps to nought
    # than the one that is never below it.
    def lessen(self, one, two, place):
        number = self.rows[one][place]
        part = self.rows[two][place]
        self.add_times(one, two, -((2 * number + part) // (2 * part)))

    # Leaves in row `top`, at the place, the greatest number that goes into both rows'
    # numbers there, and nought in row `low`. Row `top` stays where its number goes into
    # the other one already: the way to the diagonal comes to its end by that.
    def meet(self, top, low, place):
        while self.rows[low][place] != 0:
            self.lessen(low, top, place)
            if self.rows[low][place] != 0:
                self.lessen(top, low, place)
                if self.rows[top][place] == 0:
                    self.swap_rows(top, low)
