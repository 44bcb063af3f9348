"""Kin: tables that are led to one another, and the roads between them."""

from crosstable.diagonal import brought
from crosstable.errors import NoRoad
from crosstable.tables import taken_back


# The diagonal table has the size of the table that is led to it, so that it alone tells
# rows, columns and diagonal.
def are_kin(one, two):
    return brought(one)[0] == brought(two)[0]


def road(one, two):
    there = brought(one)
    back = brought(two)
    if there[0] != back[0]:
        raise NoRoad("no changes lead from the one table to the other")
    return there[1] + taken_back(back[1])
