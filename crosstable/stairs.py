"""Stairs: rows that begin, each, at a later place than the row above, with rows of noughts last.

The rows are taken in one by one, and after each the stairs are lessened again by their own
steps. Without that the numbers on the way would grow without measure; with it they stay
about as long as the greatest determinant that the table holds.
"""


def first_place(row):
    for place, number in enumerate(row):
        if number != 0:
            return place
    return len(row)


# The stairs are the rows at the top of the walk's table, as many as there are steps;
# a step is the place where its row begins. The steps are given back.
def build_stairs(walk):
    steps = []
    for low in range(len(walk.rows)):
        take_in(walk, steps, low)
        for top in range(len(steps) - 1, -1, -1):
            lessen_row(walk, steps, top, top + 1)
    return steps


def take_in(walk, steps, low):
    top = 0
    while top < len(steps) and steps[top] <= first_place(walk.rows[low]):
        if steps[top] == first_place(walk.rows[low]):
            walk.meet(top, low, steps[top])
            lessen_row(walk, steps, top, top + 1)
            lessen_row(walk, steps, low, top + 1)
        top += 1
    place = first_place(walk.rows[low])
    if place < len(walk.rows[low]):
        lift(walk, low, top, len(steps))
        steps.insert(top, place)


def lessen_row(walk, steps, row, start):
    for step in range(start, len(steps)):
        walk.lessen(row, step, steps[step])


# Between the stairs and row `low` lie rows of noughts alone.
def lift(walk, low, top, height):
    walk.swap_rows(low, height)
    for row in range(height, top, -1):
        walk.swap_rows(row, row - 1)
