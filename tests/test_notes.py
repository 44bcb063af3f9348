import re
import unittest
from copy import deepcopy
from random import Random

from crosstable.diagonal import brought
from crosstable.errors import NoLine, TableError
from crosstable.kin import road
from crosstable.notes import read, shown
from crosstable.tables import changed_all
from tests.tools import HUNDRED_FIGURES, seeded_changes, seeded_table

LINES = (
    (("add", "row", 0, 2, -3), "add row 0 2 -3"),
    (("swap", "column", 1, 0), "swap column 1 0"),
    (("turn", "row", 2), "turn row 2"),
    (("add", "row", 0, 1, 0), "add row 0 1 0"),
    (("add", "column", 1, 0, 1), "add column 1 0 1"),
    (("add", "column", 19, 0, -1), "add column 19 0 -1"),
    (("add", "row", 10, 100, 1000), "add row 10 100 1000"),
    (("add", "column", 5, 4, -100), "add column 5 4 -100"),
    (("swap", "row", 0, 1), "swap row 0 1"),
    (("swap", "row", 19, 20), "swap row 19 20"),
    (("swap", "column", 7, 70), "swap column 7 70"),
    (("turn", "row", 0), "turn row 0"),
    (("turn", "column", 0), "turn column 0"),
    (("turn", "column", 10), "turn column 10"),
)

NO_LINES = (
    # Those that the document names.
    "", "add row 0 1", "add row 1 1 2", "swap rows 0 1", "turn row -1", "turn row 01", "add row 0 1 -0",
    "turn  row 1",
    # A blank ahead or behind, blanks alone, two blanks.
    " ", "  ", "   ", "    ", " turn row 1", "turn row 1 ", "  turn row 1", "turn row  1", "add row 0  1 2",
    "swap row 0 1 ", " swap row 0 1", "add row 0 1 2 ", "add row 0 1  2", "add row 0 1 ", "swap row 0 ", "turn row ",
    # Another sign between the parts.
    "turn\trow\t1", "turn row\t1", "turn\nrow\n1", "turn row 1\n", "\nturn row 1", "turn row 1\r\n", "turn\rrow 1",
    "turn,row,1", "turn_row_1", "turn-row-1", "turnrow1", "turn row1", "turn\x0brow 1", "turn row\x0c1",
    "turn row 1\x00", "turn\x00row 1", "turn\x1frow 1", "turn row \x1c1", "turn row 1\t", "swap row 0,1", "swap row 0\t1",
    "add row 0 1\t2", "add row 0 1 2\n", "turn row 1\nturn row 2",
    # A part more or fewer.
    "turn", "turn row", "turn row 1 2", "turn row 0 1", "swap", "swap row", "swap row 0", "swap row 0 1 2", "add",
    "add row", "add row 0", "add row 0 1 2 3", "add 0 1 2", "swap 0 1", "turn 1", "row 1", "0", "row", "1 2 3",
    "turn 0 row", "row turn 0", "add row 2 swap row 0 1",
    # Other words, other letters.
    "Turn row 1", "TURN ROW 1", "turn Row 1", "turn ROW 1", "turns row 1", "tur row 1", "turn ro 1", "turn rows 1",
    "turn columns 1", "turn Column 1", "turn col 1", "swap rows 0 1", "Swap row 0 1", "swop row 0 1", "ADD row 0 1 2",
    "Add row 0 1 2", "added row 0 1 2", "sub row 0 1 2", "add side 0 1 2", "add diagonal 0 1 2", "turn  1", "turn row row",
    "swap row one two", "add row 0 1 many", "turn row one",
    # A plus sign, a nought ahead, a nought below nought.
    "turn row +1", "swap row +0 1", "swap row 0 +1", "add row +0 1 2", "add row 0 +1 2", "add row 0 1 +2",
    "turn row 00", "swap row 00 1", "swap row 0 01", "swap row 01 0", "add row 0 1 02", "add row 0 1 -02", "add row 0 1 00",
    "add row 0 1 -00", "add row 00 1 2", "add row 0 01 2", "turn row -0", "swap row -0 1", "swap row 1 -0",
    "add row -0 1 2", "add row 1 -0 2", "turn row " + "0" * 70, "add row 0 1 0" + "9" * 63, "add row 0 1 0" + "9" * 64,
    "add row 0 1 -0" + "9" * 127, "turn row 0" + "1" * 5000,
    # A place below nought.
    "turn column -2", "turn row -10", "swap row -1 0", "swap row 0 -1", "swap column -1 -2", "add row -1 0 2",
    "add row 0 -1 2", "add column -3 -1 2", "turn row -1" + "0" * 5000,
    # One place twice.
    "swap row 0 0", "swap column 5 5", "add row 0 0 1", "add column 3 3 0", "add row 12 12 -4", "swap row -1 -1",
    "swap row 1" + "0" * 5000 + " 1" + "0" * 5000,
    # Other signs within a number.
    "turn row 1.0", "turn row 1.", "turn row .1", "turn row 1e3", "turn row 0x1", "turn row 0b1", "turn row 1_0",
    "turn row 1,000", "turn row 1L", "turn row a", "turn row 1a", "turn row a1", "turn row -", "turn row --1",
    "turn row 1-", "turn row 1-2", "add row 0 1 -", "add row 0 1 --2", "add row 0 1 - 2", "add row 0 1 2-",
    "add row 0 1 1_000", "add row 0 1 1.5", "add row 0 1 1e5", "add row 0 1 +-2", "add row 0 1 -+2", "add row 0 1 ~2",
    "add row 0 1 (2)", "add row 0 1 '2'", "add row 0 1 None", "add row 0 1 True", "add row 0 1 -a", "swap row 0 1a",
    "add row 0 1 " + "9" * 64 + "_" + "9" * 63, "add row 0 1 " + "9" * 64 + "+" + "9" * 63,
    "add row 0 1 " + "9" * 64 + "-" + "9" * 63, "add row 0 1 " + "9" * 64 + "a" + "9" * 5000,
    # Changes written in other ways.
    "('turn', 'row', 1)", "turn(row, 1)", '"turn" "row" 1', "turn row 1;", "turn row 1 # why", "hello", "\x00", "\x7f",
)

PLACE = r"(0|[1-9][0-9]*)"
TURN = re.compile(rf"turn (?:row|column) {PLACE}")
SWAP = re.compile(rf"swap (?:row|column) {PLACE} {PLACE}")
ADD = re.compile(rf"add (?:row|column) {PLACE} {PLACE} (?:0|-?[1-9][0-9]*)")


def is_line(text):
    found = SWAP.fullmatch(text) or ADD.fullmatch(text)
    return found[1] != found[2] if found else bool(TURN.fullmatch(text))


def great_numbers():
    """Pairs of figures and their number, made without Python's own str and int."""
    for count in (63, 64, 65, 100, 127, 128, 129, 640, 4299, 4300, 4301, 5000, 20000):
        yield "9" * count, 10**count - 1
        yield "1" + "0" * count, 10**count
        yield "1" + "0" * (count - 1) + "7", 10**count + 7
        yield "50" + "0" * 63 + "3" + "0" * count, (50 * 10**64 + 3) * 10**count


class ShownTest(unittest.TestCase):
    def test_each_change(self):
        for change, line in LINES:
            with self.subTest(line):
                self.assertEqual(shown(change), line)
                self.assertIs(type(shown(change)), str)

    def test_great_numbers(self):
        for figures, number in great_numbers():
            self.assertTrue(shown(("add", "row", 0, 1, number)) == "add row 0 1 " + figures)
            self.assertTrue(shown(("add", "column", 1, 0, -number)) == "add column 1 0 -" + figures)
            self.assertTrue(shown(("turn", "row", number)) == "turn row " + figures)
            self.assertTrue(shown(("swap", "column", number, 0)) == f"swap column {figures} 0")
            self.assertTrue(shown(("swap", "row", 3, number)) == "swap row 3 " + figures)


class ReadTest(unittest.TestCase):
    def test_each_line(self):
        for change, line in LINES:
            with self.subTest(line):
                answer = read(line)
                self.assertEqual(answer, change)
                self.assertIs(type(answer), tuple)
                self.assertEqual([type(part) for part in answer], [type(part) for part in change])

    def test_great_numbers(self):
        for figures, number in great_numbers():
            self.assertTrue(read("add row 0 1 " + figures) == ("add", "row", 0, 1, number))
            self.assertTrue(read("add column 1 0 -" + figures) == ("add", "column", 1, 0, -number))
            self.assertTrue(read("turn column " + figures) == ("turn", "column", number))
            self.assertTrue(read(f"swap row {figures} 0") == ("swap", "row", number, 0))
            self.assertTrue(read(f"swap column {figures} 1{figures}")[2] == number)

    def test_refused(self):
        for line in NO_LINES:
            with self.subTest(line[:80]):
                self.assertFalse(is_line(line))
                with self.assertRaises(NoLine):
                    read(line)

    def test_every_line_of_one_or_two_signs(self):
        signs = [chr(number) for number in range(128)]
        for line in signs + [one + two for one in signs for two in signs]:
            with self.assertRaises(NoLine):
                read(line)

    def test_every_sign_put_in_out_or_elsewhere(self):
        signs = [chr(number) for number in range(128)]
        for line in ("add row 0 2 -3", "add column 10 1 0", "swap row 0 1", "swap column 10 11", "turn row 12"):
            for place in range(len(line) + 1):
                head, tail = line[:place], line[place:]
                for other in [head + tail[1:]] + [head + sign + tail for sign in signs] + [
                    head + sign + tail[1:] for sign in signs
                ]:
                    self.check_text(other)

    def test_parts_in_any_order(self):
        source = Random(1)
        parts = ["add", "swap", "turn", "row", "column", "0", "1", "2", "-1", "-0", "00", "+1", "", "10", "01"]
        met = {True: 0, False: 0}
        for count in (1, 2, 3, 4, 5, 6):
            for _ in range(3000):
                chosen = [source.choice(parts) for _ in range(count)]
                if source.random() < 0.7:
                    chosen[:2] = [source.choice(parts[:3]), source.choice(parts[3:5])]
                met[self.check_text(" ".join(chosen))] += 1
        self.assertGreater(met[True], 100)
        self.assertGreater(met[False], 5000)

    def check_text(self, text):
        if is_line(text):
            change = read(text)
            words = text.split(" ")
            self.assertEqual(change, (*words[:2], *[int(word) for word in words[2:]]))
            self.assertEqual(shown(change), text)
            return True
        try:
            answer = read(text)
        except NoLine:
            return False
        self.fail(f"{text!r} is read to {answer}")

    def test_no_line_is_a_table_error(self):
        with self.assertRaises(TableError):
            read("")


class ThereAndBackTest(unittest.TestCase):
    def check(self, changes):
        before = deepcopy(changes)
        for change in changes:
            answer = read(shown(change))
            self.assertEqual(answer, change)
            self.assertIs(type(answer), tuple)
        self.assertEqual(changes, before)

    def test_seeded_changes(self):
        for bound in (0, 1, 1000, HUNDRED_FIGURES, 10**4400):
            self.check(seeded_changes(2, 20, 20, 300, bound))
            self.check(seeded_changes(3, 10**18, 10**15, 50, bound))

    def test_changes_that_were_told(self):
        table = seeded_table(Random(4), 20, 20, HUNDRED_FIGURES)
        end, changes = brought(table)
        self.assertEqual(changed_all(table, [read(shown(change)) for change in changes]), end)
        self.check(road(end, table))


if __name__ == "__main__":
    unittest.main()
