"""The sums of a table's rows: which rows they are, in how many classes, and how many by their rests."""

from crosstable.diagonal import diagonal
from crosstable.errors import BadNumber, BadRow
from crosstable.stairs import build_stairs, first_place
from crosstable.tables import refuse_no_table
from crosstable.walk import Walk


def how_often(table, row):
    refuse_no_table(table)
    width = len(table[0])
    if len(row) != width:
        raise BadRow("the row has not as many numbers as the table has columns")
    rest = less_the_stairs(tallied(table), row + [0] * len(table))
    if first_place(rest) < width:
        return None
    return [-number for number in rest[width:]]


# Behind its numbers each row gets a tally of how often each row of the table is in it:
# what is done to the row is done to its tally too.
def tallied(table):
    return [row + tally_of_one(len(table), place) for place, row in enumerate(table)]


def tally_of_one(total, place):
    return [1 if other == place else 0 for other in range(total)]


# A stair has noughts ahead of its step, so what is left there of the row stays, and tells
# that it is no sum. The stairs that begin within the tally leave the row's own numbers as
# they are, and keep those of its tally short.
def less_the_stairs(table, row):
    walk = Walk(table)
    rest = row
    for top, place in enumerate(build_stairs(walk)):
        stair = walk.rows[top]
        times = rest[place] // stair[place]
        rest = [number - times * other for number, other in zip(rest, stair)]
    return rest


def classes(table):
    numbers = diagonal(table)
    if len(table) < len(table[0]) or 0 in numbers:
        return None
    return multiplied(numbers)


def how_many(table, number):
    refuse_no_table(table)
    if number < 1:
        raise BadNumber("rests are left by a number of one or more")
    return multiplied([number // greatest_into_both(number, other) for other in diagonal(table)])


def multiplied(numbers):
    answer = 1
    for number in numbers:
        answer = answer * number
    return answer


def greatest_into_both(one, two):
    while two != 0:
        rest = one % two
        one = two
        two = rest
    return one
