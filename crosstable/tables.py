"""Tables of whole numbers, and the changes of them that can be taken back."""

from crosstable.errors import BadChange, BadTable


def refuse_no_table(table):
    if len(table) == 0:
        raise BadTable("a table has one row at least")
    width = len(table[0])
    if width == 0:
        raise BadTable("a row has one number at least")
    for row in table:
        if len(row) != width:
            raise BadTable("the rows of a table have as many numbers each")


def copied(table):
    return [list(row) for row in table]


def refuse_bad_change(rows, change):
    total = len(rows) if change[1] == "row" else len(rows[0])
    # A turn has no second place: the slice is shorter for it.
    places = change[2:4]
    for place in places:
        if place < 0 or place >= total:
            raise BadChange("the change names a place that is not there")
    if len(places) == 2 and places[0] == places[1]:
        raise BadChange("the change names one place twice")


def change_by_row(rows, change):
    one = change[2]
    if change[0] == "add":
        many = change[4]
        rows[one] = [number + many * other for number, other in zip(rows[one], rows[change[3]])]
    elif change[0] == "swap":
        swap_parts(rows, one, change[3])
    else:
        rows[one] = [-number for number in rows[one]]


def change_by_column(rows, change):
    one = change[2]
    for row in rows:
        if change[0] == "add":
            row[one] = row[one] + change[4] * row[change[3]]
        elif change[0] == "swap":
            swap_parts(row, one, change[3])
        else:
            row[one] = -row[one]


def swap_parts(parts, one, two):
    kept = parts[one]
    parts[one] = parts[two]
    parts[two] = kept


def changed(table, change):
    return changed_all(table, [change])


def changed_all(table, changes):
    refuse_no_table(table)
    # One copy serves all changes: the changes that were told may be very many.
    rows = copied(table)
    for change in changes:
        refuse_bad_change(rows, change)
        if change[1] == "row":
            change_by_row(rows, change)
        else:
            change_by_column(rows, change)
    return rows


def change_back(change):
    if change[0] == "add":
        return ("add", change[1], change[2], change[3], -change[4])
    return change


def taken_back(changes):
    return [change_back(change) for change in reversed(changes)]
