"""The one diagonal table that a table is led to, and the changes that lead there."""

from crosstable.stairs import build_stairs
from crosstable.tables import refuse_no_table
from crosstable.walk import Walk


def brought(table):
    refuse_no_table(table)
    walk = Walk(table)
    build_both_stairs(walk)
    while has_number_beside(walk.rows):
        build_both_stairs(walk)
    chain(walk)
    turn_up(walk)
    return (walk.rows, walk.changes)


def diagonal(table):
    rows = brought(table)[0]
    return [rows[place][place] for place in range(diagonal_length(rows))]


def diagonal_length(rows):
    return min(len(rows), len(rows[0]))


# Stairs by columns may spoil the stairs by rows. But each round leaves the first row and
# column that are not bare yet either bare or with a smaller number where they cross; so
# the rounds come to an end.
def build_both_stairs(walk):
    build_stairs(walk)
    walk.tip_over()
    build_stairs(walk)
    walk.tip_over()


def has_number_beside(rows):
    for place, row in enumerate(rows):
        for other, number in enumerate(row):
            if other != place and number != 0:
                return True
    return False


# The stairs have put the noughts of the diagonal last.
def chain(walk):
    length = diagonal_length(walk.rows)
    for one in range(length):
        for two in range(one + 1, length):
            if walk.rows[two][two] != 0 and walk.rows[two][two] % walk.rows[one][one] != 0:
                link(walk, one, two)


# Two numbers of the diagonal give way to the greatest number that goes into both and the
# least that both go into.
def link(walk, one, two):
    walk.add_times(one, two, 1)
    walk.tip_over()
    walk.meet(one, two, one)
    walk.tip_over()
    walk.lessen(two, one, one)


def turn_up(walk):
    for place in range(diagonal_length(walk.rows)):
        if walk.rows[place][place] < 0:
            walk.turn_row(place)
