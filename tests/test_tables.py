import unittest
from copy import deepcopy
from random import Random

from crosstable.errors import BadChange, BadTable
from crosstable.tables import changed, changed_all, taken_back
from tests.tools import (
    HUNDRED_FIGURES,
    NO_TABLES,
    changed_by_product,
    seeded_changes,
    seeded_table,
)

TABLE = [[1, 2, 3], [4, 5, 6]]


class ChangedTest(unittest.TestCase):
    def test_ordinary_changes(self):
        for change, answer in (
            (("add", "row", 0, 1, 2), [[9, 12, 15], [4, 5, 6]]),
            (("add", "row", 1, 0, -4), [[1, 2, 3], [0, -3, -6]]),
            (("add", "column", 2, 0, -3), [[1, 2, 0], [4, 5, -6]]),
            (("add", "column", 0, 2, 1), [[4, 2, 3], [10, 5, 6]]),
            (("add", "row", 0, 1, 0), [[1, 2, 3], [4, 5, 6]]),
            (("add", "column", 0, 1, 0), [[1, 2, 3], [4, 5, 6]]),
            (("swap", "row", 0, 1), [[4, 5, 6], [1, 2, 3]]),
            (("swap", "row", 1, 0), [[4, 5, 6], [1, 2, 3]]),
            (("swap", "column", 0, 2), [[3, 2, 1], [6, 5, 4]]),
            (("swap", "column", 2, 1), [[1, 3, 2], [4, 6, 5]]),
            (("turn", "row", 1), [[1, 2, 3], [-4, -5, -6]]),
            (("turn", "column", 0), [[-1, 2, 3], [-4, 5, 6]]),
        ):
            with self.subTest(change):
                self.assertEqual(changed(TABLE, change), answer)

    def test_great_many(self):
        for many in (HUNDRED_FIGURES, -HUNDRED_FIGURES, 10**5000):
            self.assertEqual(changed([[1, 0], [3, -7]], ("add", "row", 0, 1, many)), [[1 + 3 * many, -7 * many], [3, -7]])
            self.assertEqual(changed([[1, 0], [3, -7]], ("add", "column", 1, 0, many)), [[1, many], [3, -7 + 3 * many]])

    def test_one_row(self):
        self.assertEqual(changed([[1, 2]], ("turn", "row", 0)), [[-1, -2]])
        self.assertEqual(changed([[1, 2]], ("add", "column", 1, 0, 5)), [[1, 7]])
        self.assertEqual(changed([[1, 2]], ("swap", "column", 1, 0)), [[2, 1]])

    def test_one_column(self):
        self.assertEqual(changed([[1], [2]], ("turn", "column", 0)), [[-1], [-2]])
        self.assertEqual(changed([[1], [2]], ("add", "row", 1, 0, 5)), [[1], [7]])
        self.assertEqual(changed([[1], [2]], ("swap", "row", 1, 0)), [[2], [1]])

    def test_row_or_column_two_stays(self):
        table = seeded_table(Random(1), 4, 5, 99)
        self.assertEqual(changed(table, ("add", "row", 3, 1, 8))[1], table[1])
        behind = changed(table, ("add", "column", 4, 2, 8))
        self.assertEqual([row[2] for row in behind], [row[2] for row in table])

    def test_same_as_a_product(self):
        source = Random(2)
        for height, width in ((1, 1), (1, 4), (4, 1), (2, 2), (3, 5), (5, 3)):
            table = seeded_table(source, height, width, 50)
            for change in seeded_changes(height * width, height, width, 40, 9):
                with self.subTest(table=table, change=change):
                    self.assertEqual(changed(table, change), changed_by_product(table, change))

    def test_greatest_table(self):
        table = seeded_table(Random(3), 20, 20, HUNDRED_FIGURES)
        for change in (("add", "row", 19, 0, 7), ("swap", "column", 19, 0), ("turn", "row", 19)):
            self.assertEqual(changed(table, change), changed_by_product(table, change))


class ChangedAllTest(unittest.TestCase):
    def test_none(self):
        self.assertEqual(changed_all(TABLE, []), TABLE)

    def test_one_after_the_other(self):
        changes = [("add", "row", 0, 1, 1), ("swap", "column", 0, 1), ("turn", "row", 0)]
        self.assertEqual(changed_all(TABLE, changes), [[-7, -5, -9], [5, 4, 6]])
        self.assertEqual(changed_all(TABLE, changes[::-1]), [[3, 3, 3], [5, 4, 6]])

    def test_same_as_single_changes(self):
        for height, width in ((1, 3), (3, 1), (4, 4), (2, 6)):
            table = seeded_table(Random(height), height, width, 20)
            changes = seeded_changes(width, height, width, 100)
            answer = table
            for change in changes:
                answer = changed_by_product(answer, change)
            self.assertEqual(changed_all(table, changes), answer)

    def test_very_many_changes(self):
        changes = [("add", "row", 0, 1, 1), ("add", "column", 1, 0, -1)] * 20000
        self.assertEqual(changed_all(changed_all(TABLE, changes), taken_back(changes)), TABLE)


class HandedInTest(unittest.TestCase):
    def test_table_and_changes_stay(self):
        for change in seeded_changes(5, 2, 3, 40):
            table, changes = deepcopy(TABLE), [change, change]
            changed(table, change)
            changed_all(table, changes)
            taken_back(changes)
            self.assertEqual(table, TABLE)
            self.assertEqual(changes, [change, change])

    def test_answer_shares_no_row(self):
        table = deepcopy(TABLE)
        for answer in (changed(table, ("swap", "row", 0, 1)), changed_all(table, [])):
            for row in answer:
                row[0] = 99
            self.assertEqual(table, TABLE)

    def test_rows_that_are_one_list(self):
        row = [1, 2]
        self.assertEqual(changed([row, row], ("add", "column", 0, 1, 1)), [[3, 2], [3, 2]])
        self.assertEqual(changed([row, row], ("swap", "column", 0, 1)), [[2, 1], [2, 1]])
        self.assertEqual(row, [1, 2])

    def test_answer_is_a_list_of_lists(self):
        for change in seeded_changes(6, 2, 3, 20):
            answer = changed(TABLE, change)
            self.assertIs(type(answer), list)
            self.assertTrue(all(type(row) is list for row in answer))


def bad_changes(height, width):
    for side, total in (("row", height), ("column", width)):
        for place in (-1, -total, total, total + 1, 10**20, -(10**20)):
            yield ("turn", side, place)
            for other in range(total):
                yield ("swap", side, place, other)
                yield ("swap", side, other, place)
                yield ("add", side, place, other, 1)
                yield ("add", side, other, place, 0)
        for place in (*range(total), -1, total):
            yield ("swap", side, place, place)
            yield ("add", side, place, place, 2)
            yield ("add", side, place, place, 0)


class BadChangeTest(unittest.TestCase):
    def test_refused(self):
        for height, width in ((1, 1), (1, 3), (3, 1), (2, 4), (4, 2)):
            table = seeded_table(Random(7), height, width, 9)
            for change in bad_changes(height, width):
                with self.subTest(height=height, width=width, change=change):
                    with self.assertRaises(BadChange):
                        changed(table, change)
                    with self.assertRaises(BadChange):
                        changed_all(table, [("turn", "row", 0), change, ("turn", "row", 0)])

    def test_places_are_counted_by_their_side(self):
        self.assertEqual(changed(TABLE, ("turn", "column", 2)), [[1, 2, -3], [4, 5, -6]])
        with self.assertRaises(BadChange):
            changed(TABLE, ("turn", "row", 2))
        tall = [[1], [2], [3]]
        self.assertEqual(changed(tall, ("turn", "row", 2)), [[1], [2], [-3]])
        with self.assertRaises(BadChange):
            changed(tall, ("turn", "column", 2))

    def test_refused_change_leaves_the_table(self):
        table = deepcopy(TABLE)
        with self.assertRaises(BadChange):
            changed_all(table, [("turn", "row", 0), ("turn", "column", 1), ("turn", "row", 5)])
        self.assertEqual(table, TABLE)


class BadTableTest(unittest.TestCase):
    def test_refused(self):
        for table in NO_TABLES:
            with self.subTest(table):
                with self.assertRaises(BadTable):
                    changed(table, ("turn", "row", 0))
                with self.assertRaises(BadTable):
                    changed_all(table, [("turn", "column", 0)])
                with self.assertRaises(BadTable):
                    changed_all(table, [])

    def test_ahead_of_bad_change(self):
        for table in NO_TABLES:
            for change in (("turn", "row", -1), ("swap", "column", 0, 0), ("add", "row", 9, 0, 1)):
                with self.subTest(table=table, change=change):
                    with self.assertRaises(BadTable):
                        changed(table, change)
                    with self.assertRaises(BadTable):
                        changed_all(table, [change])


class TakenBackTest(unittest.TestCase):
    def test_each_change(self):
        for side in ("row", "column"):
            self.assertEqual(taken_back([("add", side, 0, 2, -3)]), [("add", side, 0, 2, 3)])
            self.assertEqual(taken_back([("add", side, 0, 2, 10**200)]), [("add", side, 0, 2, -(10**200))])
            self.assertEqual(taken_back([("add", side, 1, 0, 0)]), [("add", side, 1, 0, 0)])
            self.assertEqual(taken_back([("swap", side, 1, 0)]), [("swap", side, 1, 0)])
            self.assertEqual(taken_back([("turn", side, 2)]), [("turn", side, 2)])

    def test_from_the_last_to_the_first(self):
        changes = [("add", "row", 0, 1, 5), ("swap", "column", 1, 2), ("turn", "row", 1)]
        back = [("turn", "row", 1), ("swap", "column", 1, 2), ("add", "row", 0, 1, -5)]
        self.assertEqual(taken_back(changes), back)
        self.assertEqual(taken_back(back), changes)

    def test_none_at_all(self):
        self.assertEqual(taken_back([]), [])

    def test_refuses_nothing(self):
        odd = [("turn", "row", -1), ("swap", "column", 3, 3), ("add", "row", 10**30, -2, 1)]
        self.assertEqual(taken_back(odd), [("add", "row", 10**30, -2, -1), odd[1], odd[0]])

    def test_a_list_of_its_own(self):
        changes = [("turn", "row", 0)]
        back = taken_back(changes)
        self.assertIs(type(back), list)
        back.append(("turn", "row", 1))
        self.assertEqual(changes, [("turn", "row", 0)])

    def test_leads_back(self):
        for height, width in ((1, 1), (1, 5), (5, 1), (3, 3), (4, 6)):
            table = seeded_table(Random(8), height, width, 30)
            for count in (1, 2, 3, 50):
                changes = seeded_changes(count, height, width, count, 10**6)
                self.assertEqual(changed_all(changed_all(table, changes), taken_back(changes)), table)


if __name__ == "__main__":
    unittest.main()
