"""Promise 12: drawings, written and read."""

import re
import unittest

from seamboard import notes as notes_file
from seamboard.errors import BadBoard, BadFlips, BadText
from seamboard.notes import read, written
from tests import plain

# All signs that a text may have, but line ends.
SIGNS = [chr(number) for number in range(32, 127) if number != 37]


def first_bad_row(text):
    """The row that is asked for a text; None, if it is a drawing."""
    rows = text.split("\n")
    columns = {4: 2, 6: 3, 8: 4, 10: 5}.get(len(rows[0]))
    if columns is None:
        return 0
    forms = ["([o*][-=]){%d}" % columns, "[|#]( [|#]){%d}" % (columns - 1)]
    for number, row in enumerate(rows):
        if number == 10 or re.fullmatch(forms[number % 2], row) is None:
            return number
    if len(rows) not in (4, 6, 8, 10):
        return len(rows)
    flips = [2 * (number // 2 * columns + at // 2) + number % 2
             for number, row in enumerate(rows) for at, sign in enumerate(row) if sign in "=#"]
    drawn = plain.drawing((len(rows) // 2, columns), tuple(sorted(flips))).split("\n")
    return next((number for number, row in enumerate(rows) if row != drawn[number]), None)


def blank_drawing(board):
    return plain.drawing(board, ())


class Interface(unittest.TestCase):
    def test_each_function_stands_in_its_file_with_its_arguments(self):
        for name, arguments in {"written": "(board, flips)", "read": "(text)"}.items():
            with self.subTest(name):
                function = getattr(notes_file, name)
                self.assertEqual(function.__module__, "seamboard.notes")
                self.assertEqual(plain.arguments(function), arguments)

    def test_the_arguments_may_be_named(self):
        self.assertEqual(read(text=written(board=(2, 2), flips=(0,))), ((2, 2), (0,)))


class Written(unittest.TestCase):
    def test_told_drawings(self):
        self.assertEqual(written((2, 2), ()), "o-o-\n| |\no-o-\n| |")
        self.assertEqual(written((2, 2), (0,)), "*=*-\n| |\no-o-\n| |")
        self.assertEqual(written((2, 2), (2,)), "*-*=\n| |\no-o-\n| |")
        self.assertEqual(written((2, 2), (1,)), "*-o-\n# |\n*-o-\n| |")
        self.assertEqual(written((2, 2), (7,)), "o-*-\n| |\no-*-\n| #")
        self.assertEqual(written((2, 2), tuple(range(8))), "o=o=\n# #\no=o=\n# #")
        self.assertEqual(written((2, 3), (0, 2, 11)), "*=o=o-\n| | |\no-o-*-\n| | #")
        self.assertEqual(written((3, 2), (6, 9)), "*-o-\n| |\n*-*=\n| |\n*-o-\n# |")

    def test_every_board(self):
        for board in plain.BOARDS:
            for flips in plain.some_of(plain.many_edges(board)):
                with self.subTest(board, flips=flips):
                    self.assertEqual(written(board, flips), plain.drawing(board, flips))

    def test_refusals(self):
        for board in plain.NO_BOARDS:
            with self.subTest(board):
                with plain.refused(self, BadBoard):
                    written(board, None)
        for board in plain.BOARDS:
            for flips, place in plain.unfit(plain.many_edges(board)):
                with self.subTest(board, flips=flips):
                    with plain.refused(self, BadFlips, place):
                        written(board, flips)


class Read(unittest.TestCase):
    def test_what_is_written_is_read_to_the_same(self):
        for board in plain.BOARDS:
            for flips in plain.some_of(plain.many_edges(board)):
                with self.subTest(board, flips=flips):
                    told = read(written(board, flips))
                    self.assertEqual(told, (board, flips))
                    self.assertEqual([told.__class__, told[0].__class__, told[1].__class__], [tuple] * 3)
                    self.assertEqual({number.__class__ for number in told[0] + told[1]}, {int})

    def test_all_flips_of_the_least_board(self):
        texts = set()
        for bits in range(256):
            flips = tuple(edge for edge in range(8) if bits >> edge & 1)
            text = written((2, 2), flips)
            texts.add(text)
            self.assertEqual(read(text), ((2, 2), flips))
        self.assertEqual(len(texts), 256)

    def test_what_is_no_text(self):
        for thing in (None, True, False, 0, 4, 10, -1, (), ("o-o-",), [], ["o-o-", "| |", "o-o-", "| |"], [4], (1, 2)):
            with self.subTest(thing):
                with plain.refused(self, BadText, 0):
                    read(thing)

    def test_the_first_row_has_signs_for_2_to_5_columns(self):
        for many in (0, 1, 2, 3, 5, 7, 9, 11, 12, 13, 14, 20):
            first = ("o-" * 10)[:many]
            for rest in ("", "\n", "\n| |\no-o-\n| |", "\n| |", "\n" * 20):
                with self.subTest(many, rest=rest):
                    with plain.refused(self, BadText, 0):
                        read(first + rest)
        for columns in (1, 6):
            row = "o-" * columns
            down = " ".join("|" * columns)
            with plain.refused(self, BadText, 0):
                read("\n".join([row, down, row, down]))

    def test_a_row_of_another_length(self):
        for board in plain.BOARDS:
            rows = blank_drawing(board).split("\n")
            for number in range(1, len(rows)):
                row = rows[number]
                for other in ("", row[:-1], row[:-2], row + " ", row + row[:1], row + "-", row * 2, " " + row):
                    with self.subTest(board, number=number, other=other):
                        with plain.refused(self, BadText, number):
                            read("\n".join(rows[:number] + [other] + rows[number + 1:]))
                        # The first of several rows is told, whatever else can't be.
                        with plain.refused(self, BadText, number):
                            read("\n".join(rows[:number] + [other] + ["x"] * 20))
                        with plain.refused(self, BadText, number):
                            read("\n".join(rows[:number] + [other]))

    def test_another_sign(self):
        for board in ((2, 2), (2, 5), (3, 4), (5, 2), (5, 5)):
            for text in (blank_drawing(board), plain.drawing(board, (0, 3, 4))):
                for at in range(len(text)):
                    if text[at] != "\n":
                        for sign in SIGNS:
                            changed = text[:at] + sign + text[at + 1:]
                            number = first_bad_row(changed)
                            self.assertEqual(sign == text[at], number is None)
                            if number is not None:
                                with plain.refused(self, BadText, number):
                                    read(changed)
                            else:
                                self.assertEqual(read(changed)[0], board)

    def test_signs_at_other_places(self):
        rows = ["o-o-", "| |", "o-o-", "| |"]
        told = [(0, ("-o-o", "oooo", "----", "| | ", "o*o*", "o |-")), (1, (" | ", "|||", "   ", "o-o", "|-|"))]
        told += [(2, ("o-o|", "#-#-", "o o ", "=-=-")), (3, ("# *", "=-=", "##|"))]
        for number, others in told:
            for other in others:
                with self.subTest(number, other=other):
                    with plain.refused(self, BadText, number):
                        read("\n".join(rows[:number] + [other] + rows[number + 1:]))

    def test_how_many_rows_there_are(self):
        for columns in range(2, 6):
            rows = ["o-" * columns, " ".join("|" * columns)] * 8
            for many in range(1, 17):
                text = "\n".join(rows[:many])
                with self.subTest(columns, many=many):
                    if many in (4, 6, 8, 10):
                        self.assertEqual(read(text), ((many // 2, columns), ()))
                    else:
                        with plain.refused(self, BadText, min(many, 10)):
                            read(text)

    def test_the_eleventh_row(self):
        text = blank_drawing((5, 3))
        for more in ("o-o-o-", "| | |", "", "x", "o-o-o-\n| | |", "o-o-o-\nx\n\n"):
            with plain.refused(self, BadText, 10):
                read(text + "\n" + more)
        with plain.refused(self, BadText, 9):
            read(text[:-1] + "o\no-o-o-")
        # That there is an eleventh row is told ahead of a site that should be lit.
        with plain.refused(self, BadText, 10):
            read("*" + text[1:] + "\no-o-o-")

    def test_how_many_rows_is_told_ahead_of_lit_sites_and_behind_signs(self):
        with plain.refused(self, BadText, 3):
            read("*-o-\n| |\no-o-")
        with plain.refused(self, BadText, 2):
            read("*-o-\n| |")
        with plain.refused(self, BadText, 5):
            read("*-o-\n| |\no-o-\n| |\no-o-")
        with plain.refused(self, BadText, 2):
            read("*-o-\n| |\nx-o-")
        with plain.refused(self, BadText, 1):
            read("o-o-\n| x")

    def test_a_site_that_is_lit_though_it_should_not_be_or_not_though_it_should(self):
        for board in plain.BOARDS:
            columns = board[1]
            for flips in plain.some_of(plain.many_edges(board))[::3]:
                rows = written(board, flips).split("\n")
                for site in range(plain.many_sites(board)):
                    number, at = site // columns * 2, site % columns * 2
                    sign = "o" if rows[number][at] == "*" else "*"
                    row = rows[number][:at] + sign + rows[number][at + 1:]
                    changed = rows[:number] + [row] + rows[number + 1:]
                    with plain.refused(self, BadText, number):
                        read("\n".join(changed))
                    # Behind the first such row another one makes no difference.
                    if number < len(rows) - 2:
                        changed[-2] = changed[-2].replace("*", "+").replace("o", "*").replace("+", "o")
                        with plain.refused(self, BadText, number):
                            read("\n".join(changed))

    def test_a_flip_drawn_without_the_sites_that_it_lights(self):
        with plain.refused(self, BadText, 0):
            read("o=o-\n| |\no-o-\n| |")
        with plain.refused(self, BadText, 2):
            read("o-o-\n| |\no-o=\n| |")
        with plain.refused(self, BadText, 0):
            read("o-o-\n| |\no-o-\n# |")
        with plain.refused(self, BadText, 2):
            read("*-o-\n| |\no-o-\n# |")
        self.assertEqual(read("*-o-\n| |\n*-o-\n# |"), ((2, 2), (5,)))

    def test_line_ends_ahead_and_behind(self):
        for board in plain.BOARDS:
            text = blank_drawing(board)
            with plain.refused(self, BadText, 2 * board[0]):
                read(text + "\n")
            with plain.refused(self, BadText, 0):
                read("\n" + text)
            with plain.refused(self, BadText, 1):
                read(text.replace("\n", "\n\n"))

    def test_asked_again_the_same_is_told(self):
        text = written((3, 4), (1, 6, 17))
        for _ in range(3):
            self.assertEqual(written((3, 4), (1, 6, 17)), text)
            self.assertEqual(read(text), ((3, 4), (1, 6, 17)))
            with plain.refused(self, BadText, 0):
                read(text.replace("*", "o"))


if __name__ == "__main__":
    unittest.main()
