"""Promises 1 to 3 and 5: faces, turned, led."""

import inspect
import unittest

from seamboard import faces as faces_file
from seamboard.boards import checks, seams
from seamboard.errors import BadBoard, BadFaces, BadFlips
from seamboard.faces import led, turned
from tests import plain


class Interface(unittest.TestCase):
    def test_each_function_stands_in_its_file_with_its_arguments(self):
        told = {"turned": ["board", "flips", "faces"], "led": ["board", "one", "other"]}
        for name, arguments in told.items():
            with self.subTest(name):
                function = getattr(faces_file, name)
                self.assertTrue(inspect.isfunction(function))
                self.assertEqual(function.__module__, "seamboard.faces")
                self.assertEqual(list(inspect.signature(function).parameters), arguments)

    def test_the_arguments_may_be_named(self):
        self.assertEqual(turned(board=(3, 3), flips=(), faces=(0,)), (0, 1, 3, 6))
        self.assertEqual(led(board=(3, 3), one=(), other=()), ())


class Refusals(unittest.TestCase):
    def test_what_is_no_board_is_refused(self):
        for board in plain.NO_BOARDS:
            with self.subTest(board):
                with plain.refused(self, BadBoard):
                    turned(board, (), ())
                with plain.refused(self, BadBoard):
                    led(board, (), ())

    def test_flips_that_cannot_be_are_refused(self):
        for board in plain.BOARDS:
            for flips, place in plain.unfit(plain.many_edges(board)):
                with self.subTest(board, flips=flips):
                    with plain.refused(self, BadFlips, place):
                        turned(board, flips, (0,))
                    with plain.refused(self, BadFlips, place):
                        led(board, flips, (0,))
                    with plain.refused(self, BadFlips, place):
                        led(board, (0,), flips)

    def test_faces_that_cannot_be_are_refused(self):
        for board in plain.BOARDS:
            for faces, place in plain.unfit(plain.many_sites(board)):
                with self.subTest(board, faces=faces):
                    with plain.refused(self, BadFaces, place):
                        turned(board, (0,), faces)

    def test_what_is_handed_in_first_is_refused_first(self):
        with plain.refused(self, BadBoard):
            turned((3, 6), (18,), (9,))
        with plain.refused(self, BadBoard):
            turned([3, 3], (), (0, 0))
        with plain.refused(self, BadFlips, 1):
            turned((3, 3), (0, 0), None)
        with plain.refused(self, BadFlips, 0):
            turned((3, 3), [], (0, 1, 1))
        with plain.refused(self, BadBoard):
            led((6, 3), None, (1, 0))
        with plain.refused(self, BadBoard):
            led((3, 1), (), None)
        with plain.refused(self, BadFlips, 2):
            led((3, 3), (0, 1, 1), None)
        with plain.refused(self, BadFlips, 0):
            led((3, 3), None, (0, 1, 1))
        # The one flips are not alike to any: the other are refused all the same.
        with plain.refused(self, BadFlips, 1):
            led((3, 3), (0,), (0, 18))


class Turned(unittest.TestCase):
    def test_told_faces(self):
        self.assertEqual(turned((3, 4), (), (0,)), (0, 1, 3, 8))
        self.assertEqual(turned((3, 4), (), (3,)), (1, 6, 7, 14))
        self.assertEqual(turned((3, 4), (), (8,)), (0, 16, 17, 19))
        self.assertEqual(turned((3, 4), (), (11,)), (6, 17, 22, 23))
        self.assertEqual(turned((2, 2), (), (0,)), (0, 1, 3, 4))
        self.assertEqual(turned((2, 2), (), (1,)), (1, 2, 3, 6))
        self.assertEqual(turned((2, 2), (), (3,)), (2, 5, 6, 7))
        self.assertEqual(turned((2, 5), (), (9,)), (8, 11, 18, 19))
        self.assertEqual(turned((5, 2), (), (9,)), (2, 17, 18, 19))
        self.assertEqual(turned((5, 5), (), (24,)), (8, 41, 48, 49))
        self.assertEqual(turned((3, 4), (0, 2), (0,)), (1, 2, 3, 8))
        self.assertEqual(turned((3, 4), (), (0, 1)), (0, 1, 2, 5, 8, 10))

    def test_no_faces_and_all_faces_turn_nothing(self):
        for board in plain.BOARDS:
            everything = tuple(range(plain.many_sites(board)))
            for flips in plain.some_of(plain.many_edges(board)):
                with self.subTest(board, flips=flips):
                    self.assertEqual(turned(board, flips, ()), flips)
                    self.assertEqual(turned(board, flips, everything), flips)

    def test_as_the_document_says_on_every_board(self):
        for board in plain.BOARDS:
            flips = plain.some_of(plain.many_edges(board))
            for at, faces in enumerate(plain.some_of(plain.many_sites(board))):
                for begin in ((), flips[at % len(flips)], flips[-1 - at % 7]):
                    with self.subTest(board, flips=begin, faces=faces):
                        self.assertEqual(turned(board, begin, faces), plain.turn(board, begin, faces))

    def test_what_is_turned_is_alike(self):
        for board in plain.BOARDS:
            flips = tuple(range(0, plain.many_edges(board), 3))
            for faces in plain.some_of(plain.many_sites(board)):
                with self.subTest(board, faces=faces):
                    told = turned(board, flips, faces)
                    self.assertEqual(checks(board, told), checks(board, flips))
                    self.assertEqual(seams(board, told), seams(board, flips))


class Led(unittest.TestCase):
    def test_flips_that_are_the_same(self):
        for board in plain.BOARDS:
            for flips in plain.some_of(plain.many_edges(board)):
                with self.subTest(board, flips=flips):
                    self.assertEqual(led(board, flips, flips), ())

    def test_told_faces(self):
        self.assertEqual(led((3, 4), (), (1, 6, 7, 14)), (3,))
        self.assertEqual(led((3, 4), (1, 6, 7, 14), ()), (3,))
        self.assertEqual(led((3, 4), (1, 6), (7, 14)), (3,))
        self.assertEqual(led((3, 4), (0,), (1, 2, 5, 8, 10)), (2, 3, 4, 5, 6, 7, 8, 9, 10, 11))
        self.assertEqual(led((3, 4), (), (0, 1, 3, 8)), (1, 2, 3, 4, 5, 6, 7, 8, 9, 10, 11))
        self.assertEqual(led((2, 2), (), (0, 1, 3, 4)), (1, 2, 3))
        self.assertEqual(led((2, 2), (0,), (1, 3, 4)), (1, 2, 3))
        self.assertEqual(led((2, 2), (2, 5), (6, 7)), (3,))

    def test_none_if_they_light_other_sites(self):
        self.assertIsNone(led((3, 4), (), (0,)))
        self.assertIsNone(led((3, 4), (0,), ()))
        self.assertIsNone(led((3, 4), (0,), (2,)))
        self.assertIsNone(led((5, 5), (0, 1, 3), (48, 49)))
        for board in plain.BOARDS:
            for edge in range(plain.many_edges(board)):
                with self.subTest(board, edge=edge):
                    self.assertIsNone(led(board, (edge,), ()))
                    self.assertIsNone(led(board, (), (edge,)))

    def test_none_if_they_cross_a_seam_otherwise(self):
        for rows, columns in plain.BOARDS:
            board = (rows, columns)
            row = tuple(range(0, 2 * columns, 2))
            column = tuple(range(1, 2 * rows * columns, 2 * columns))
            both = tuple(sorted(row + column))
            with self.subTest(board):
                for one in ((), row, column, both):
                    for other in ((), row, column, both):
                        self.assertEqual(led(board, one, other), () if one == other else None)
        self.assertIsNone(led((2, 2), (0,), (2,)))
        self.assertIsNone(led((2, 2), (1,), (5,)))

    def test_rows_and_columns_are_alike_to_each_other(self):
        for rows, columns in plain.BOARDS:
            board = (rows, columns)
            with self.subTest(board):
                first_row = tuple(range(0, 2 * columns, 2))
                last_row = tuple(edge + 2 * columns * (rows - 1) for edge in first_row)
                self.assertEqual(led(board, first_row, last_row), tuple(range(columns * (rows - 1), columns * rows)))
                first = tuple(range(1, 2 * rows * columns, 2 * columns))
                last = tuple(edge + 2 * (columns - 1) for edge in first)
                self.assertEqual(led(board, first, last), tuple(range(columns - 1, rows * columns, columns)))

    def test_all_flips_of_the_least_board(self):
        ways = plain.all_faces_but_the_first((2, 2))
        every = [tuple(edge for edge in range(8) if bits >> edge & 1) for bits in range(256)]
        for one in every[::5]:
            alike = {plain.turn((2, 2), one, faces): faces for faces in ways}
            self.assertEqual(len(alike), 8)
            for other in every:
                self.assertEqual(led((2, 2), one, other), alike.get(other), (one, other))

    def test_all_faces_lead_where_they_are_led(self):
        for board in ((2, 3), (3, 2), (2, 4), (4, 2), (3, 3)):
            one = tuple(range(1, plain.many_edges(board), 3))
            for faces in plain.all_faces_but_the_first(board):
                with self.subTest(board, faces=faces):
                    self.assertEqual(led(board, one, plain.turn(board, one, faces)), faces)

    def test_some_faces_on_every_board(self):
        for board in plain.BOARDS:
            everything = range(plain.many_sites(board))
            one = tuple(range(0, plain.many_edges(board), 4))
            for faces in plain.some_of(plain.many_sites(board)):
                with self.subTest(board, faces=faces):
                    other = plain.turn(board, one, faces)
                    told = faces if 0 not in faces else tuple(face for face in everything if face not in faces)
                    self.assertEqual(led(board, one, other), told)
                    self.assertEqual(led(board, other, one), told)
                    self.assertEqual(turned(board, one, told), other)


class EveryAnswer(unittest.TestCase):
    def test_tuples_of_whole_numbers(self):
        for board in ((2, 2), (3, 4), (5, 5)):
            for faces in plain.some_of(plain.many_sites(board)):
                other = turned(board, (0, 5), faces)
                for told in (other, led(board, (0, 5), other)):
                    self.assertIs(told.__class__, tuple)
                    self.assertEqual([number for number in told if number.__class__ is not int], [])

    def test_asked_again_the_same_is_told(self):
        for _ in range(3):
            self.assertEqual(turned((3, 4), (1,), (3,)), (6, 7, 14))
            self.assertEqual(led((3, 4), (1,), (6, 7, 14)), (3,))
            self.assertIsNone(led((4, 3), (1,), (6, 7, 14)))

    def test_what_is_refused_changes_nothing(self):
        board, flips, faces = [3, 3], [0, 1], [3]
        with plain.refused(self, BadBoard):
            turned(board, (0, 1), (3,))
        with plain.refused(self, BadFlips, 0):
            turned((3, 3), flips, (3,))
        with plain.refused(self, BadFaces, 0):
            turned((3, 3), (0, 1), faces)
        with plain.refused(self, BadFlips, 0):
            led((3, 3), (0, 1), flips)
        self.assertEqual((board, flips, faces), ([3, 3], [0, 1], [3]))
        self.assertEqual(turned((3, 3), (0, 1), (3,)), plain.turn((3, 3), (0, 1), (3,)))


if __name__ == "__main__":
    unittest.main()
