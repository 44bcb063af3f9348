import unittest
from copy import deepcopy
from itertools import product as each_choice
from math import gcd, prod
from random import Random

from crosstable.errors import BadNumber, BadRow, BadTable, TableError
from crosstable.sums import classes, how_many, how_often
from crosstable.tables import changed_all
from tests.tools import (
    HUNDRED_FIGURES,
    NO_TABLES,
    determinant,
    diagonal_by_minors,
    seeded_changes,
    seeded_table,
    summed,
    table_of,
    with_multiples,
)


def is_sum_by_minors(table, row):
    """A row is a sum of the table's rows just where the table with it has as many numbers
    on its diagonal that aren't nought, with the same product."""
    numbers = [number for number in diagonal_by_minors(table) if number]
    longer = [number for number in diagonal_by_minors(table + [row]) if number]
    return len(numbers) == len(longer) and prod(numbers) == prod(longer)


class HowOftenCase(unittest.TestCase):
    def check_sum(self, table, row):
        before = deepcopy((table, row))
        answer = how_often(table, row)
        self.assertEqual((table, row), before)
        self.assertIs(type(answer), list)
        self.assertEqual(len(answer), len(table))
        self.assertTrue(all(type(number) is int for number in answer))
        self.assertEqual(summed(table, answer), row)
        return answer

    def check_no_sum(self, table, row):
        before = deepcopy((table, row))
        self.assertIsNone(how_often(table, row))
        self.assertEqual((table, row), before)


class HowOftenTest(HowOftenCase):
    def test_the_only_answer(self):
        for table, row, answer in (
            ([[2, 0], [0, 3]], [4, -3], [2, -1]),
            ([[2, 0], [0, 3]], [0, 0], [0, 0]),
            ([[1, 2], [3, 4]], [4, 6], [1, 1]),
            ([[1, 2], [3, 4]], [-2, -2], [1, -1]),
            ([[0, 5]], [0, -15], [-3]),
            ([[7]], [0], [0]),
            ([[-7]], [21], [-3]),
            ([[1, 2, 3], [4, 5, 6]], [6, 9, 12], [2, 1]),
        ):
            with self.subTest(table=table, row=row):
                self.assertEqual(self.check_sum(table, row), answer)

    def test_several_answers(self):
        for table, row in (
            ([[2], [3]], [1]),
            ([[6], [10], [15]], [1]),
            ([[6], [10], [15]], [-29]),
            ([[1, 2], [1, 2]], [5, 10]),
            ([[1, 2], [2, 4], [3, 6]], [-7, -14]),
            ([[0, 0], [1, 1], [0, 0]], [3, 3]),
            ([[0, 0], [0, 0]], [0, 0]),
            ([[0]], [0]),
            ([[2, 0], [0, 2], [1, 1]], [3, 5]),
            ([[4, 6], [6, 9], [2, 3]], [2, 3]),
        ):
            with self.subTest(table=table, row=row):
                self.check_sum(table, row)

    def test_no_sum(self):
        for table, row in (
            ([[2, 0], [0, 3]], [1, 0]),
            ([[2, 0], [0, 3]], [2, 1]),
            ([[2, 0], [0, 3]], [0, -1]),
            ([[2]], [3]),
            ([[0]], [1]),
            ([[6], [10], [14]], [1]),
            ([[0, 0], [0, 0]], [0, 1]),
            ([[1, 2], [2, 4]], [1, 3]),
            ([[1, 2], [2, 4]], [0, 1]),
            ([[1, 2, 3]], [1, 2, 4]),
            ([[1, 2, 3]], [2, 4, 5]),
            ([[0, 5]], [1, 5]),
            ([[0, 5]], [0, 4]),
            ([[2, 0], [0, 2], [1, 1]], [1, 0]),
            ([[0, 0, 3]], [0, 1, 3]),
            ([[2, 1, 0], [0, 0, 1]], [2, 0, 0]),
        ):
            with self.subTest(table=table, row=row):
                self.check_no_sum(table, row)

    def test_each_row_of_the_table(self):
        source = Random(1)
        for height, width in ((1, 1), (1, 4), (4, 1), (3, 3), (2, 5), (5, 2)):
            for bound in (1, 6, 10**30):
                table = seeded_table(source, height, width, bound)
                for row in table:
                    self.check_sum(table, row)
                self.check_sum(table, [0] * width)

    def test_sums_of_all_kinds_of_tables(self):
        source = Random(2)
        for height, width in ((1, 1), (1, 4), (4, 1), (3, 3), (2, 5), (5, 2), (6, 6)):
            for bound in (0, 1, 7, 10**12):
                table = seeded_table(source, height, width, bound)
                for _ in range(5):
                    times = [source.randint(-bound - 3, bound + 3) for _ in range(height)]
                    self.check_sum(table, summed(table, times))

    def test_rows_of_noughts_multiples_and_the_same(self):
        source = Random(3)
        for _ in range(60):
            first = [source.randint(-5, 5) for _ in range(3)]
            second = [source.randint(-5, 5) for _ in range(3)]
            table = [first, [0, 0, 0], [3 * number for number in first], second, first, [0, 0, 0]]
            source.shuffle(table)
            self.check_sum(table, summed(table, [source.randint(-9, 9) for _ in table]))
            self.check_sum(table, second)

    def test_against_determinants(self):
        source = Random(4)
        met = {True: 0, False: 0}
        for height, width in ((1, 1), (1, 2), (2, 1), (2, 2), (2, 3), (3, 2), (3, 3), (4, 2)):
            for _ in range(25):
                table = seeded_table(source, height, width, 4)
                for _ in range(4):
                    row = [source.randint(-6, 6) for _ in range(width)]
                    found = is_sum_by_minors(table, row)
                    met[found] += 1
                    with self.subTest(table=table, row=row):
                        if found:
                            self.check_sum(table, row)
                        else:
                            self.check_no_sum(table, row)
        self.assertGreater(met[True], 100)
        self.assertGreater(met[False], 100)

    def test_every_row_of_a_square(self):
        table = [[2, 4], [1, 5]]
        sums = [summed(table, times) for times in each_choice(range(-30, 31), repeat=2)]
        for row in each_choice(range(-6, 7), repeat=2):
            row = list(row)
            if row in sums:
                self.check_sum(table, row)
            else:
                self.check_no_sum(table, row)

    def test_great_numbers(self):
        source = Random(5)
        for height, width in ((20, 20), (20, 1), (1, 20), (20, 10), (10, 20), (20, 19), (19, 20)):
            table = seeded_table(source, height, width, HUNDRED_FIGURES)
            times = [source.randint(-HUNDRED_FIGURES, HUNDRED_FIGURES) for _ in range(height)]
            with self.subTest(height=height, width=width):
                answer = self.check_sum(table, summed(table, times))
                if height <= width:
                    self.assertEqual(answer, times)
                else:
                    self.check_sum(table, [source.randint(1, 9) * determinant(table[:width])] + [0] * (width - 1))

    def test_great_numbers_that_are_no_sum(self):
        source = Random(6)
        table = seeded_table(source, 20, 20, HUNDRED_FIGURES)
        self.check_no_sum(table, [1] + [0] * 19)
        tripled = [[3 * number for number in row] for row in seeded_table(source, 20, 12, 10**99)]
        self.check_no_sum(tripled, tripled[4][:11] + [tripled[4][11] + 1])
        self.check_no_sum(tripled, [source.randint(-HUNDRED_FIGURES, HUNDRED_FIGURES) * 3 + 1 for _ in range(12)])
        wide = seeded_table(source, 10, 20, HUNDRED_FIGURES)
        self.check_no_sum(wide, wide[3][:19] + [wide[3][19] - 1])

    def test_great_tables_with_multiples(self):
        source = Random(7)
        for rank in (1, 2, 10, 19):
            table = with_multiples(source, 20, 20, rank, 10**49)
            self.check_sum(table, summed(table, [source.randint(-9, 9) for _ in range(20)]))
            self.check_no_sum(table, table[0][:19] + [table[0][19] + 1])

    def test_great_structured_tables(self):
        source = Random(8)
        powers = [[2 ** source.randint(0, 330) for _ in range(20)] for _ in range(20)]
        upper = [[powers[r][c] * (c >= r) for c in range(20)] for r in range(20)]
        corner = [[source.randint(1, HUNDRED_FIGURES) * (c + r >= 19) for c in range(20)] for r in range(20)]
        for table in (powers, upper, corner):
            self.check_sum(table, summed(table, [source.randint(-9, 9) for _ in range(20)]))

    def test_rows_that_are_one_list(self):
        row = [2, 4]
        self.check_sum([row, row], row)
        self.assertEqual(row, [2, 4])

    def test_row_of_another_length(self):
        source = Random(9)
        for height, width in ((1, 1), (1, 3), (3, 1), (2, 2), (4, 3)):
            table = seeded_table(source, height, width, 5)
            for length in (0, width - 1, width + 1, 2 * width, 30):
                if length != width:
                    for number in (0, 1):
                        with self.subTest(table=table, length=length):
                            row = [number] * length
                            with self.assertRaises(BadRow):
                                how_often(table, row)
                            self.assertEqual(row, [number] * length)
        for table in ([[0, 0]], [[0, 0], [0, 0]]):
            for row in ([], [0], [0, 0, 0]):
                with self.assertRaises(BadRow):
                    how_often(table, row)

    def test_as_many_numbers_as_rows_is_not_asked(self):
        with self.assertRaises(BadRow):
            how_often([[1, 2], [3, 4], [5, 6]], [1, 2, 3])
        with self.assertRaises(BadRow):
            how_often([[1, 2, 3], [4, 5, 6]], [1, 2])

    def test_no_table(self):
        for table in NO_TABLES:
            for row in ([], [1], [1, 2], [1, 2, 3], [1, 2, 3, 4]):
                with self.subTest(table=table, row=row):
                    with self.assertRaises(BadTable):
                        how_often(table, row)


class ClassesTest(unittest.TestCase):
    def check_classes(self, table, answer):
        before = deepcopy(table)
        with self.subTest(table):
            self.assertEqual(classes(table), answer)
            self.assertIs(type(classes(table)), type(answer))
        self.assertEqual(table, before)

    def test_known(self):
        for table, answer in (
            ([[1]], 1),
            ([[5]], 5),
            ([[-5]], 5),
            ([[2, 0], [0, 3]], 6),
            ([[2, 0], [0, 2]], 4),
            ([[1, 2], [3, 4]], 2),
            ([[0, 3], [-4, 0]], 12),
            ([[2, 4, 4], [-6, 6, 12], [10, 4, 16]], 624),
            ([[6], [10]], 2),
            ([[6], [10], [15]], 1),
            ([[0], [4]], 4),
            ([[2, 0], [0, 2], [1, 1]], 2),
            ([[2, 0], [0, 2], [0, 0]], 4),
            ([[3, 0], [0, 3], [3, 3], [6, 9]], 9),
        ):
            self.check_classes(table, answer)

    def test_a_nought_on_the_diagonal(self):
        for table in (
            [[0]],
            [[0], [0]],
            [[1, 2], [2, 4]],
            [[1, 0], [0, 0]],
            [[0, 0], [0, 0]],
            [[1, 2], [2, 4], [3, 6]],
            [[1, 1], [1, 1], [0, 0]],
            [[1, 2, 3], [4, 5, 6], [7, 8, 9]],
        ):
            self.check_classes(table, None)

    def test_fewer_rows_than_columns(self):
        for table in ([[1, 0]], [[1, 1]], [[0, 0]], [[1, 0, 0], [0, 1, 0]], [[2, 3, 4], [5, 6, 8]]):
            self.check_classes(table, None)
        source = Random(11)
        for height, width in ((1, 2), (1, 20), (4, 5), (19, 20)):
            self.check_classes(seeded_table(source, height, width, 99), None)

    def test_against_determinants(self):
        source = Random(12)
        for height, width in ((1, 1), (2, 1), (2, 2), (3, 2), (3, 3), (5, 3), (5, 1)):
            for bound in (1, 5, 10**15):
                for _ in range(8):
                    table = seeded_table(source, height, width, bound)
                    numbers = diagonal_by_minors(table)
                    self.check_classes(table, None if 0 in numbers else prod(numbers))

    def test_against_a_count_of_classes(self):
        source = Random(13)
        counted = 0
        while counted < 12:
            table = seeded_table(source, 2, 2, 4)
            size = abs(determinant(table))
            if 0 < size < 12:
                rows = [list(row) for row in each_choice(range(size), repeat=2)]
                firsts = []
                for row in rows:
                    if all(how_often(table, [a - b for a, b in zip(row, first)]) is None for first in firsts):
                        firsts.append(row)
                self.check_classes(table, len(firsts))
                counted += 1

    def test_same_behind_changes(self):
        table = [[2, 0, 0], [0, 6, 0], [0, 0, 12], [0, 0, 0]]
        for seed in range(10):
            self.check_classes(changed_all(table, seeded_changes(seed, 4, 3, 40)), 144)

    def test_great_numbers(self):
        source = Random(14)
        table = seeded_table(source, 20, 20, HUNDRED_FIGURES)
        self.check_classes(table, abs(determinant(table)))
        self.check_classes(table + [table[0], [0] * 20], abs(determinant(table)))
        self.check_classes(table_of([HUNDRED_FIGURES] * 20, 20, 20), HUNDRED_FIGURES**20)
        self.check_classes([[HUNDRED_FIGURES * 2], [HUNDRED_FIGURES * 3]], HUNDRED_FIGURES)
        self.check_classes(with_multiples(source, 20, 20, 19, 10**49), None)

    def test_no_table(self):
        for table in NO_TABLES:
            with self.subTest(table):
                with self.assertRaises(BadTable):
                    classes(table)


def counted_rests(table, number):
    """Each row taken from 0 to number - 1 times gives all rows of rests there are."""
    choices = each_choice(range(number), repeat=len(table))
    return len({tuple(rest % number for rest in summed(table, times)) for times in choices})


class HowManyTest(unittest.TestCase):
    def check_how_many(self, table, number, answer):
        before = deepcopy(table)
        with self.subTest(table=table, number=number):
            self.assertEqual(how_many(table, number), answer)
            self.assertIs(type(how_many(table, number)), int)
        self.assertEqual(table, before)

    def test_known(self):
        for table, number, answer in (
            ([[1]], 5, 5),
            ([[2]], 4, 2),
            ([[4]], 6, 3),
            ([[6]], 4, 2),
            ([[4]], 4, 1),
            ([[4]], 2, 1),
            ([[0]], 7, 1),
            ([[-3]], 9, 3),
            ([[2, 0], [0, 3]], 6, 6),
            ([[2, 0], [0, 3]], 2, 2),
            ([[1, 0], [0, 1]], 10, 100),
            ([[1, 2], [2, 4]], 5, 5),
            ([[1, 2, 3]], 4, 4),
            ([[2], [3], [5]], 8, 8),
        ):
            self.check_how_many(table, number, answer)

    def test_by_one(self):
        source = Random(15)
        for height, width in ((1, 1), (1, 3), (3, 1), (4, 4)):
            for bound in (0, 1, 9, HUNDRED_FIGURES):
                self.check_how_many(seeded_table(source, height, width, bound), 1, 1)

    def test_against_a_count(self):
        source = Random(16)
        for height, width in ((1, 1), (1, 3), (2, 1), (2, 2), (2, 3), (3, 2), (3, 3)):
            for bound in (0, 1, 4, 12, 10**9):
                table = seeded_table(source, height, width, bound)
                for number in (2, 3, 4, 6, 8):
                    self.check_how_many(table, number, counted_rests(table, number))

    def test_noughts_on_the_diagonal(self):
        for numbers in ([0], [0, 0], [2, 0], [3, 6, 0], [1, 4, 0, 0]):
            table = table_of(numbers, len(numbers), len(numbers) + 1)
            for number in (1, 2, 3, 4, 5):
                answer = prod(number // gcd(number, other) for other in numbers)
                self.check_how_many(table, number, answer)
                if len(numbers) < 4:
                    self.check_how_many(table, number, counted_rests(table, number))
                other = changed_all(table, seeded_changes(number, len(numbers), len(numbers) + 1, 30))
                self.check_how_many(other, number, answer)

    def test_great_numbers(self):
        source = Random(17)
        for height, width in ((20, 20), (20, 3), (3, 20)):
            table = seeded_table(source, height, width, HUNDRED_FIGURES)
            for prime in (10**9 + 7, 2**127 - 1):
                # By a prime that goes into no number of the diagonal every rest is met.
                self.check_how_many(table, prime, prime ** min(height, width))
        numbers = [6, 6 * 10**40, 12 * 10**90]
        table = changed_all(table_of(numbers, 20, 18), seeded_changes(18, 20, 18, 300, 2))
        for number in (HUNDRED_FIGURES, 10**99, 12 * 10**90, 3**200, 10**5000):
            self.check_how_many(table, number, prod(number // gcd(number, other) for other in numbers))

    def test_number_below_one(self):
        for table in ([[1]], [[0]], [[1, 2], [3, 4]], [[1, 2, 3]], [[1], [2]]):
            for number in (0, -1, -2, -HUNDRED_FIGURES):
                with self.subTest(table=table, number=number):
                    with self.assertRaises(BadNumber):
                        how_many(table, number)

    def test_no_table(self):
        for table in NO_TABLES:
            for number in (1, 2, 10**50, 0, -1, -(10**50)):
                with self.subTest(table=table, number=number):
                    with self.assertRaises(BadTable):
                        how_many(table, number)


class RefusalsTest(unittest.TestCase):
    def test_each_is_a_table_error(self):
        with self.assertRaises(TableError):
            how_often([[1]], [])
        with self.assertRaises(TableError):
            how_many([[1]], 0)
        with self.assertRaises(TableError):
            classes([])


if __name__ == "__main__":
    unittest.main()
