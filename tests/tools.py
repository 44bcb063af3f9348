"""What several tests need: an independent look at tables, changes and diagonals."""

from itertools import combinations
from math import gcd
from random import Random

HUNDRED_FIGURES = 10**100 - 1

NO_TABLES = (
    [],
    [[]],
    [[], []],
    [[1, 2], []],
    [[], [1, 2]],
    [[1, 2], [3]],
    [[1], [2, 3]],
    [[1, 2], [3, 4], [5, 6, 7]],
    [[1, 2, 3], [4, 5, 6], [7, 8]],
)


def seeded_table(source, height, width, bound):
    return [[source.randint(-bound, bound) for _ in range(width)] for _ in range(height)]


def seeded_change(source, height, width, bound):
    side = source.choice(["row", "column"])
    total = height if side == "row" else width
    name = source.choice(["add", "swap", "turn"]) if total > 1 else "turn"
    if name == "turn":
        return ("turn", side, source.randrange(total))
    one, two = source.sample(range(total), 2)
    if name == "swap":
        return ("swap", side, one, two)
    return ("add", side, one, two, source.randint(-bound, bound))


def seeded_changes(seed, height, width, count, bound=3):
    source = Random(seed)
    return [seeded_change(source, height, width, bound) for _ in range(count)]


def product(one, two):
    columns = list(zip(*two))
    return [[sum(a * b for a, b in zip(row, column)) for column in columns] for row in one]


def with_multiples(source, height, width, rank, bound):
    """Of the rows, and of the columns, as many as the rank tells are no sums of others."""
    return product(seeded_table(source, height, rank, bound), seeded_table(source, rank, width, bound))


def summed(table, times):
    """The rows of the table, each taken as often as told, added up number by number."""
    return [sum(often * row[column] for often, row in zip(times, table)) for column in range(len(table[0]))]


def unit_table(size):
    return [[int(row == column) for column in range(size)] for row in range(size)]


def table_of(numbers, height, width):
    """The table with these numbers on its diagonal and noughts elsewhere."""
    table = [[0] * width for _ in range(height)]
    for place, number in enumerate(numbers):
        table[place][place] = number
    return table


def changed_by_product(table, change):
    """A change by rows is a product from the left, one by columns from the right."""
    name, side, one = change[:3]
    by_row = side == "row"
    factor = unit_table(len(table) if by_row else len(table[0]))
    if name == "add":
        row, column = (one, change[3]) if by_row else (change[3], one)
        factor[row][column] = change[4]
    elif name == "swap":
        factor[one], factor[change[3]] = factor[change[3]], factor[one]
    else:
        factor[one][one] = -1
    return product(factor, table) if by_row else product(table, factor)


def goes_into(one, two):
    return two == 0 if one == 0 else two % one == 0


def diagonal_faults(table):
    """What keeps the table from being diagonal in the sense of point 5."""
    faults = []
    for row, numbers in enumerate(table):
        for column, number in enumerate(numbers):
            if row != column and number != 0:
                faults.append(f"{row} {column} is not nought")
    numbers = [table[place][place] for place in range(min(len(table), len(table[0])))]
    faults += [f"{number} is below nought" for number in numbers if number < 0]
    faults += [f"{a} does not go into {b}" for a, b in zip(numbers, numbers[1:]) if not goes_into(a, b)]
    return faults


def determinant(table):
    """By Bareiss: every division leaves no rest."""
    rows = [list(row) for row in table]
    sign, before = 1, 1
    for step in range(len(rows) - 1):
        found = [row for row in range(step, len(rows)) if rows[row][step] != 0]
        if not found:
            return 0
        if found[0] != step:
            rows[step], rows[found[0]] = rows[found[0]], rows[step]
            sign = -sign
        for row in range(step + 1, len(rows)):
            for column in range(step + 1, len(rows)):
                cross = rows[row][column] * rows[step][step] - rows[row][step] * rows[step][column]
                rows[row][column] = cross // before
        before = rows[step][step]
    return sign * rows[-1][-1]


def diagonal_by_minors(table):
    """The first k numbers of the diagonal, multiplied, are the greatest number that goes
    into every determinant of k rows and k columns: another way to the same list."""
    height, width = len(table), len(table[0])
    numbers, before = [], 1
    for size in range(1, min(height, width) + 1):
        common = 0
        for rows in combinations(range(height), size):
            for columns in combinations(range(width), size):
                common = gcd(common, determinant([[table[row][column] for column in columns] for row in rows]))
        numbers.append(common // before if before else 0)
        before = common
    return numbers
