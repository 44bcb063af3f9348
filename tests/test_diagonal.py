import unittest
from copy import deepcopy
from math import gcd, prod
from random import Random

from crosstable.diagonal import brought, diagonal
from crosstable.errors import BadTable
from crosstable.tables import changed_all, taken_back
from tests.tools import (
    HUNDRED_FIGURES,
    NO_TABLES,
    determinant,
    diagonal_by_minors,
    diagonal_faults,
    seeded_changes,
    seeded_table,
    table_of,
    with_multiples,
)


class BroughtCase(unittest.TestCase):
    def check_brought(self, table):
        before = deepcopy(table)
        answer = brought(table)
        self.assertEqual(table, before)
        self.assertIs(type(answer), tuple)
        end, changes = answer
        self.assertIs(type(changes), list)
        self.assertTrue(all(type(row) is list for row in end))
        self.assertEqual((len(end), len(end[0])), (len(table), len(table[0])))
        self.assertEqual(diagonal_faults(end), [])
        self.assertEqual(changed_all(table, changes), end)
        self.assertEqual(changed_all(end, taken_back(changes)), table)
        numbers = diagonal(table)
        self.assertIs(type(numbers), list)
        self.assertEqual(numbers, [end[place][place] for place in range(min(len(end), len(end[0])))])
        self.assertEqual(table, before)
        return numbers


class SmallTablesTest(BroughtCase):
    def test_known_diagonals(self):
        for table, numbers in (
            ([[5]], [5]),
            ([[-5]], [5]),
            ([[0]], [0]),
            ([[2, 4, 4], [-6, 6, 12], [10, 4, 16]], [2, 2, 156]),
            ([[1, 2], [3, 4]], [1, 2]),
            ([[2, 0], [0, 3]], [1, 6]),
            ([[0, 0], [0, 3]], [3, 0]),
            ([[4, 0], [0, 6]], [2, 12]),
            ([[6, 0, 0], [0, 10, 0], [0, 0, 15]], [1, 30, 30]),
            ([[0, 2], [3, 0]], [1, 6]),
            ([[6, 10, 15]], [1]),
            ([[6], [10], [14]], [2]),
            ([[0, 0, 0], [0, 0, 4]], [4, 0]),
            ([[1, 2, 3], [2, 4, 6]], [1, 0]),
            ([[2, 4], [3, 6], [5, 10]], [1, 0]),
            ([[-2, 0], [0, -2]], [2, 2]),
        ):
            with self.subTest(table):
                self.assertEqual(self.check_brought(table), numbers)

    def test_every_table_of_two_rows_and_columns(self):
        numbers = range(-3, 5)
        for a in numbers:
            for b in numbers:
                for c in numbers:
                    for d in numbers:
                        table = [[a, b], [c, d]]
                        first = gcd(a, b, c, d)
                        second = abs(a * d - b * c) // first if first else 0
                        self.assertEqual(self.check_brought(table), [first, second], table)

    def test_against_determinants(self):
        source = Random(11)
        for height in range(1, 5):
            for width in range(1, 6):
                for bound in (1, 2, 6, 30, 10**6):
                    table = seeded_table(source, height, width, bound)
                    with self.subTest(table):
                        self.assertEqual(self.check_brought(table), diagonal_by_minors(table))

    def test_even_numbers_and_common_parts(self):
        source = Random(12)
        for parts in ((0, 2, 4, 6), (0, 6, 10, 15), (12, 18, 30), (0, 0, 0, 8), (2**40, 6**20, 0)):
            for height, width in ((2, 2), (3, 3), (3, 4), (4, 3), (4, 4)):
                table = [[source.choice(parts) for _ in range(width)] for _ in range(height)]
                with self.subTest(table):
                    self.assertEqual(self.check_brought(table), diagonal_by_minors(table))


class ShapesTest(BroughtCase):
    def test_all_noughts(self):
        for height, width in ((1, 1), (1, 6), (6, 1), (3, 4), (20, 20)):
            self.assertEqual(self.check_brought(table_of([], height, width)), [0] * min(height, width))

    def test_length(self):
        source = Random(13)
        for height, width in ((1, 1), (1, 20), (20, 1), (2, 7), (7, 2), (12, 12), (20, 3), (3, 20)):
            numbers = self.check_brought(seeded_table(source, height, width, 9))
            self.assertEqual(len(numbers), min(height, width))

    def test_one_row_and_one_column(self):
        source = Random(14)
        for width in (1, 2, 5, 20):
            row = [6 * number for number in seeded_table(source, 1, width, HUNDRED_FIGURES // 6)[0]]
            self.assertEqual(self.check_brought([row]), [gcd(*row)])
            self.assertEqual(self.check_brought([[number] for number in row]), [gcd(*row)])

    def test_rows_that_are_multiples(self):
        source = Random(15)
        row = seeded_table(source, 1, 6, 50)[0]
        table = [[many * number for number in row] for many in (4, -6, 0, 10, 2)]
        self.assertEqual(self.check_brought(table), [2 * gcd(*row), 0, 0, 0, 0])
        for rank in (1, 2, 3):
            table = with_multiples(source, 4, 4, rank, 20)
            numbers = self.check_brought(table)
            self.assertEqual(numbers, diagonal_by_minors(table))
            self.assertEqual(numbers[rank:], [0] * (4 - rank))

    def test_equal_rows_and_columns(self):
        self.assertEqual(self.check_brought([[HUNDRED_FIGURES] * 20 for _ in range(20)]), [HUNDRED_FIGURES] + [0] * 19)

    def test_noughts_ahead(self):
        table = [[0, 0, 0, 0], [0, 0, 0, 4], [0, 0, 6, 0]]
        self.assertEqual(self.check_brought(table), [2, 12, 0])


class DiagonalAlreadyTest(BroughtCase):
    def test_stays(self):
        for numbers, height, width in (
            ([1], 1, 1),
            ([7], 1, 4),
            ([7], 4, 1),
            ([0], 2, 1),
            ([1, 2, 6, 0], 4, 4),
            ([3, 3, 0, 0], 4, 6),
            ([2, 2, 4, 0], 6, 4),
            ([10**99, 10**99 * 7], 2, 2),
            ([2**place for place in range(20)], 20, 20),
        ):
            table = table_of(numbers, height, width)
            with self.subTest(table):
                self.assertEqual(self.check_brought(table), numbers)
                self.assertEqual(brought(table)[0], table)

    def test_almost(self):
        for numbers, answer in (
            ([2, -6], [2, 6]),
            ([-1, 2], [1, 2]),
            ([0, 5], [5, 0]),
            ([0, -5, 0, 10], [5, 10, 0, 0]),
            ([6, 2], [2, 6]),
            ([12, 18, 8], [2, 12, 72]),
            ([2, 3, 5, 7], [1, 1, 1, 210]),
        ):
            for more in (0, 2):
                size = len(numbers)
                wide, tall = table_of(numbers, size, size + more), table_of(numbers, size + more, size)
                self.assertEqual(self.check_brought(wide), answer)
                self.assertEqual(self.check_brought(tall), answer)


class GreatTablesTest(BroughtCase):
    def test_greatest_square(self):
        table = seeded_table(Random(16), 20, 20, HUNDRED_FIGURES)
        numbers = self.check_brought(table)
        self.assertEqual(prod(numbers), abs(determinant(table)))
        self.assertGreater(len(brought(table)[1]), 500)

    def test_somewhat_beyond(self):
        table = seeded_table(Random(17), 22, 21, 10**110)
        self.check_brought(table)

    def test_wide_and_tall(self):
        source = Random(18)
        for height, width in ((1, 20), (2, 20), (10, 20), (19, 20), (20, 1), (20, 2), (20, 10), (20, 19)):
            with self.subTest(height=height, width=width):
                self.check_brought(seeded_table(source, height, width, HUNDRED_FIGURES))

    def test_greatest_with_multiples(self):
        source = Random(19)
        for rank in (1, 2, 10, 19):
            numbers = self.check_brought(with_multiples(source, 20, 20, rank, 10**49))
            self.assertEqual([number != 0 for number in numbers], [place < rank for place in range(20)])

    def test_powers_and_triangles(self):
        source = Random(20)
        powers = [[2 ** source.randint(0, 330) for _ in range(20)] for _ in range(20)]
        upper = [[powers[r][c] * (c >= r) for c in range(20)] for r in range(20)]
        lower = [[3 ** source.randint(0, 200) * (c <= r) for c in range(20)] for r in range(20)]
        corner = [[source.randint(1, HUNDRED_FIGURES) * (c + r >= 19) for c in range(20)] for r in range(20)]
        for table in (powers, upper, lower, corner):
            self.assertEqual(prod(self.check_brought(table)), abs(determinant(table)))

    def test_known_diagonal_under_many_changes(self):
        for seed, numbers in enumerate((
            [2**place for place in range(20)],
            [6] * 10 + [12] * 5 + [0] * 5,
            [1] * 18 + [720720, 720720 * 10**40],
        )):
            table = changed_all(table_of(numbers, 20, 20), seeded_changes(seed, 20, 20, 400, 2))
            self.assertEqual(self.check_brought(table), numbers)


class SameDiagonalTest(BroughtCase):
    def test_whatever_changes_went_first(self):
        source = Random(21)
        for height, width in ((1, 1), (1, 4), (4, 1), (3, 3), (3, 5), (6, 4)):
            for bound in (1, 12, 10**30):
                table = seeded_table(source, height, width, bound)
                numbers = diagonal(table)
                for seed in range(5):
                    behind = changed_all(table, seeded_changes(seed, height, width, 30, bound))
                    with self.subTest(table=table, seed=seed):
                        self.assertEqual(self.check_brought(behind), numbers)

    def test_same_for_rows_and_columns(self):
        source = Random(22)
        for height, width in ((2, 3), (4, 4), (5, 2)):
            table = [[2 * number for number in row] for row in seeded_table(source, height, width, 9)]
            self.assertEqual(diagonal(table), diagonal([list(column) for column in zip(*table)]))

    def test_told_alike_each_time(self):
        table = seeded_table(Random(23), 5, 6, 99)
        self.assertEqual(brought(table), brought(deepcopy(table)))

    def test_answer_shares_no_row(self):
        table = [[1, 0], [0, 2]]
        end, changes = brought(table)
        end[0][0] = 99
        changes.append(("turn", "row", 0))
        self.assertEqual(table, [[1, 0], [0, 2]])
        self.assertEqual(brought(table)[0], [[1, 0], [0, 2]])


class BadTableTest(unittest.TestCase):
    def test_refused(self):
        for table in NO_TABLES:
            with self.subTest(table):
                with self.assertRaises(BadTable):
                    brought(table)
                with self.assertRaises(BadTable):
                    diagonal(table)


if __name__ == "__main__":
    unittest.main()
