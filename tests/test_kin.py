import unittest
from copy import deepcopy
from random import Random

from crosstable.diagonal import brought
from crosstable.errors import BadTable, NoRoad, TableError
from crosstable.kin import are_kin, road
from crosstable.tables import changed_all, taken_back
from tests.tools import (
    HUNDRED_FIGURES,
    NO_TABLES,
    diagonal_by_minors,
    seeded_changes,
    seeded_table,
    table_of,
    with_multiples,
)

SIZES = ((1, 1), (1, 4), (4, 1), (2, 2), (3, 3), (3, 5), (5, 3))

NOT_KIN = (
    ([[1]], [[2]]),
    ([[0]], [[1]]),
    ([[1, 0], [0, 1]], [[1, 0], [0, 0]]),
    ([[2, 0], [0, 3]], [[1, 0], [0, 5]]),
    ([[2, 0], [0, 2]], [[1, 0], [0, 4]]),
    ([[2, 0], [0, 3]], [[2, 0], [0, 4]]),
    ([[0, 0], [0, 0]], [[0, 0], [0, 1]]),
    ([[1]], [[1, 0]]),
    ([[1]], [[1], [0]]),
    ([[1, 0]], [[1], [0]]),
    ([[1, 0], [0, 2]], [[1, 0, 0], [0, 2, 0]]),
    ([[1, 0], [0, 2]], [[1, 0], [0, 2], [0, 0]]),
    ([[0, 0, 0], [0, 0, 0]], [[0, 0], [0, 0], [0, 0]]),
    ([[0, 0], [0, 0]], [[0, 0, 0], [0, 0, 0]]),
    ([[3, 6, 9]], [[3], [6], [9]]),
)


class KinCase(unittest.TestCase):
    def check_road(self, one, two):
        before = deepcopy((one, two))
        changes = road(one, two)
        self.assertEqual((one, two), before)
        self.assertIs(type(changes), list)
        self.assertTrue(all(type(change) is tuple for change in changes))
        self.assertEqual(changed_all(one, changes), two)
        self.assertEqual(changed_all(two, taken_back(changes)), one)

    def check_kin(self, one, two):
        self.assertIs(are_kin(one, two), True)
        self.assertIs(are_kin(two, one), True)
        self.check_road(one, two)
        self.check_road(two, one)

    def check_not_kin(self, one, two):
        before = deepcopy((one, two))
        for first, second in ((one, two), (two, one)):
            self.assertIs(are_kin(first, second), False)
            with self.assertRaises(NoRoad):
                road(first, second)
        self.assertEqual((one, two), before)


class AreKinTest(KinCase):
    def test_known_kin(self):
        for one, two in (
            ([[5]], [[-5]]),
            ([[0]], [[0]]),
            ([[2, 0], [0, 3]], [[1, 0], [0, 6]]),
            ([[2, 0], [0, 3]], [[0, 6], [-1, 0]]),
            ([[4, 0], [0, 6]], [[2, 0], [0, 12]]),
            ([[6, 10, 15]], [[0, 0, 1]]),
            ([[6], [10], [14]], [[2], [2], [2]]),
            ([[1, 2], [3, 4]], [[2, 0], [0, 1]]),
            ([[1, 2, 3], [2, 4, 6]], [[0, 0, 0], [0, -1, 0]]),
        ):
            with self.subTest(one=one, two=two):
                self.check_kin(one, two)

    def test_not_kin(self):
        for one, two in NOT_KIN:
            with self.subTest(one=one, two=two):
                self.check_not_kin(one, two)

    def test_changed_from_one_another(self):
        source = Random(1)
        for height, width in SIZES:
            for bound in (1, 9, 10**20):
                table = seeded_table(source, height, width, bound)
                for count in (1, 2, 30):
                    other = changed_all(table, seeded_changes(count, height, width, count))
                    with self.subTest(table=table, other=other):
                        self.check_kin(table, other)

    def test_just_where_the_diagonals_are_the_same(self):
        source = Random(2)
        met = {True: 0, False: 0}
        for height, width in ((1, 2), (2, 1), (2, 2), (2, 3), (3, 2), (3, 3)):
            tables = [seeded_table(source, height, width, 2) for _ in range(12)]
            for one in tables:
                for two in tables:
                    same = diagonal_by_minors(one) == diagonal_by_minors(two)
                    met[same] += 1
                    with self.subTest(one=one, two=two):
                        self.assertIs(are_kin(one, two), same)
        self.assertGreater(met[True], 100)
        self.assertGreater(met[False], 100)

    def test_same_numbers_in_other_sizes(self):
        for numbers in ([0], [1], [2], [2, 6]):
            sizes = [(height, width) for height in range(2, 5) for width in range(2, 5)]
            for one in sizes:
                for two in sizes:
                    kin = are_kin(table_of(numbers, *one), table_of(numbers, *two))
                    self.assertIs(kin, one == two)

    def test_great_tables(self):
        source = Random(3)
        table = seeded_table(source, 20, 20, HUNDRED_FIGURES)
        other = deepcopy(table)
        other[19][19] += 1
        self.check_not_kin(table, other)


class RoadTest(KinCase):
    def test_a_table_and_itself(self):
        source = Random(4)
        for height, width in SIZES:
            for bound in (0, 1, 50):
                table = seeded_table(source, height, width, bound)
                self.check_kin(table, table)
                self.check_kin(table, deepcopy(table))

    def test_to_the_diagonal_and_from_it(self):
        source = Random(5)
        for height, width in SIZES:
            table = seeded_table(source, height, width, 10**6)
            self.check_kin(table, brought(table)[0])

    def test_there_and_back(self):
        one = seeded_table(Random(6), 4, 3, 20)
        two = changed_all(one, seeded_changes(6, 4, 3, 25))
        self.assertEqual(changed_all(one, road(one, two) + road(two, one)), one)

    def test_by_way_of_a_third(self):
        one = seeded_table(Random(7), 3, 4, 20)
        two = changed_all(one, seeded_changes(7, 3, 4, 25))
        three = changed_all(two, seeded_changes(8, 3, 4, 25))
        self.assertEqual(changed_all(one, road(one, two) + road(two, three)), three)
        self.check_kin(one, three)

    def test_great_tables_and_numbers(self):
        source = Random(8)
        for height, width in ((20, 20), (20, 7), (7, 20), (1, 20), (20, 1)):
            table = seeded_table(source, height, width, HUNDRED_FIGURES)
            other = changed_all(table, seeded_changes(9, height, width, 60, 2))
            with self.subTest(height=height, width=width):
                self.check_road(table, other)

    def test_great_tables_with_multiples(self):
        table = with_multiples(Random(9), 20, 20, 11, 10**45)
        other = changed_all(table, seeded_changes(10, 20, 20, 100, 2))
        self.check_road(table, other)

    def test_long_road_is_handed_on(self):
        table = seeded_table(Random(10), 20, 20, HUNDRED_FIGURES)
        end = brought(table)[0]
        changes = road(end, table)
        self.assertGreater(len(changes), 500)
        self.assertEqual(changed_all(changed_all(end, changes), taken_back(changes)), end)

    def test_answer_is_its_own(self):
        table = [[1, 0], [0, 2]]
        other = [[2, 0], [0, 1]]
        road(table, other).append(("turn", "row", 0))
        self.check_road(table, other)


class RefusedTest(unittest.TestCase):
    def test_no_table_as_either_of_two(self):
        good = [[1, 2], [3, 4]]
        for table in NO_TABLES:
            for one, two in ((table, good), (good, table), (table, table), (table, [[7]]), ([[7]], table)):
                for asked in (are_kin, road):
                    with self.subTest(asked=asked, one=one, two=two):
                        before = deepcopy((one, two))
                        with self.assertRaises(BadTable):
                            asked(one, two)
                        self.assertEqual((one, two), before)

    def test_two_that_are_no_tables(self):
        for one in NO_TABLES:
            for two in NO_TABLES:
                with self.assertRaises(BadTable):
                    are_kin(one, two)
                with self.assertRaises(BadTable):
                    road(one, two)

    def test_no_road_is_a_table_error(self):
        with self.assertRaises(TableError):
            road([[1]], [[2]])


if __name__ == "__main__":
    unittest.main()
