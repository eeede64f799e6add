"""Promises 1 to 4: the board, its edges, flips, checks, seams, after."""

import inspect
import unittest

from seamboard import boards
from seamboard.boards import after, checks, seams
from seamboard.errors import BadBoard, BadFlips
from tests import plain


class Interface(unittest.TestCase):
    def test_each_function_stands_in_its_file_with_its_arguments(self):
        told = {"checks": ["board", "flips"], "seams": ["board", "flips"], "after": ["board", "one", "other"]}
        for name, arguments in told.items():
            with self.subTest(name):
                function = getattr(boards, name)
                self.assertTrue(inspect.isfunction(function))
                self.assertEqual(function.__module__, "seamboard.boards")
                self.assertEqual(list(inspect.signature(function).parameters), arguments)

    def test_the_arguments_may_be_named(self):
        self.assertEqual(checks(board=(3, 3), flips=(0,)), (0, 1))
        self.assertEqual(seams(board=(3, 3), flips=(4,)), (1, 0))
        self.assertEqual(after(board=(3, 3), one=(0,), other=(1,)), (0, 1))


class Boards(unittest.TestCase):
    def test_sides_of_2_to_5_are_a_board(self):
        for board in plain.BOARDS:
            with self.subTest(board):
                last = plain.many_edges(board) - 1
                self.assertEqual(checks(board, ()), ())
                self.assertEqual(seams(board, (last,)), (0, 1))
                self.assertEqual(after(board, (last,), ()), (last,))

    def test_what_is_no_board_is_refused(self):
        for board in plain.NO_BOARDS:
            with self.subTest(board):
                with plain.refused(self, BadBoard):
                    checks(board, ())
                with plain.refused(self, BadBoard):
                    seams(board, ())
                with plain.refused(self, BadBoard):
                    after(board, (), ())

    def test_the_board_is_refused_ahead_of_the_flips(self):
        for flips in (None, [], (-1,), (True,), (99,), (1, 0)):
            with self.subTest(flips):
                with plain.refused(self, BadBoard):
                    checks((3, 6), flips)
                with plain.refused(self, BadBoard):
                    seams((1, 3), flips)
                with plain.refused(self, BadBoard):
                    after((3, True), flips, ())
                with plain.refused(self, BadBoard):
                    after([3, 3], (), flips)


class Flips(unittest.TestCase):
    def test_the_first_that_cannot_be_there_is_told(self):
        for board in plain.BOARDS:
            for flips, place in plain.unfit(plain.many_edges(board)):
                with self.subTest(board, flips=flips):
                    with plain.refused(self, BadFlips, place):
                        checks(board, flips)
                    with plain.refused(self, BadFlips, place):
                        seams(board, flips)
                    with plain.refused(self, BadFlips, place):
                        after(board, flips, (0,))
                    with plain.refused(self, BadFlips, place):
                        after(board, (0,), flips)

    def test_the_one_is_refused_ahead_of_the_other(self):
        with plain.refused(self, BadFlips, 2):
            after((3, 3), (0, 1, 18), (18,))
        with plain.refused(self, BadFlips, 0):
            after((3, 3), [0], (0, 1, 1))
        with plain.refused(self, BadFlips, 1):
            after((3, 3), (0, 0), None)

    def test_there_are_twice_as_many_edges_as_sites(self):
        for board in plain.BOARDS:
            many = plain.many_edges(board)
            with self.subTest(board):
                checks(board, tuple(range(many)))
                with plain.refused(self, BadFlips, many):
                    checks(board, tuple(range(many + 1)))

    def test_a_board_that_is_handed_in_later_does_not_lend_its_edges(self):
        checks((5, 5), (49,))
        with plain.refused(self, BadFlips, 0):
            checks((5, 4), (49,))
        with plain.refused(self, BadFlips, 1):
            checks((2, 2), (7, 8))


class Checks(unittest.TestCase):
    def test_told_boards(self):
        self.assertEqual(checks((3, 4), ()), ())
        self.assertEqual(checks((3, 4), (0,)), (0, 1))
        self.assertEqual(checks((3, 4), (1,)), (0, 4))
        self.assertEqual(checks((3, 4), (0, 2)), (0, 2))
        self.assertEqual(checks((3, 4), (6,)), (0, 3))
        self.assertEqual(checks((3, 4), (17,)), (0, 8))
        self.assertEqual(checks((3, 4), (22,)), (8, 11))
        self.assertEqual(checks((3, 4), (23,)), (3, 11))
        self.assertEqual(checks((3, 4), (10, 11, 12)), (7, 9))
        self.assertEqual(checks((2, 5), (8, 9)), (0, 9))
        self.assertEqual(checks((5, 2), (17, 18)), (0, 9))
        self.assertEqual(checks((5, 5), (48, 49)), (4, 20))

    def test_two_edges_between_the_same_two_sites(self):
        self.assertEqual(checks((2, 2), (0,)), (0, 1))
        self.assertEqual(checks((2, 2), (2,)), (0, 1))
        self.assertEqual(checks((2, 2), (0, 2)), ())
        self.assertEqual(checks((2, 2), (1,)), (0, 2))
        self.assertEqual(checks((2, 2), (5,)), (0, 2))
        self.assertEqual(checks((2, 2), (1, 5)), ())
        self.assertEqual(checks((2, 3), (1, 7)), ())
        self.assertEqual(checks((2, 3), (0, 4)), (1, 2))
        self.assertEqual(checks((3, 2), (0, 2)), ())
        self.assertEqual(checks((3, 2), (1, 9)), (2, 4))

    def test_no_flips_and_all_flips_light_nothing(self):
        for board in plain.BOARDS:
            with self.subTest(board):
                self.assertEqual(checks(board, ()), ())
                self.assertEqual(checks(board, tuple(range(plain.many_edges(board)))), ())

    def test_as_the_document_says_on_every_board(self):
        for board in plain.BOARDS:
            for flips in plain.some_of(plain.many_edges(board)):
                with self.subTest(board, flips=flips):
                    self.assertEqual(checks(board, flips), plain.lit(board, flips))

    def test_all_flips_on_the_least_board(self):
        for bits in range(256):
            flips = tuple(edge for edge in range(8) if bits >> edge & 1)
            self.assertEqual(checks((2, 2), flips), plain.lit((2, 2), flips))


class Seams(unittest.TestCase):
    def test_told_boards(self):
        self.assertEqual(seams((3, 4), ()), (0, 0))
        self.assertEqual(seams((3, 4), (0, 1, 2, 3, 4, 5)), (0, 0))
        self.assertEqual(seams((3, 4), (6,)), (1, 0))
        self.assertEqual(seams((3, 4), (7,)), (0, 0))
        self.assertEqual(seams((3, 4), (6, 14)), (0, 0))
        self.assertEqual(seams((3, 4), (6, 14, 22)), (1, 0))
        self.assertEqual(seams((3, 4), (17,)), (0, 1))
        self.assertEqual(seams((3, 4), (16,)), (0, 0))
        self.assertEqual(seams((3, 4), (17, 19)), (0, 0))
        self.assertEqual(seams((3, 4), (17, 19, 21)), (0, 1))
        self.assertEqual(seams((3, 4), (22, 23)), (1, 1))
        self.assertEqual(seams((2, 2), (0, 2)), (1, 0))
        self.assertEqual(seams((2, 2), (1, 5)), (0, 1))

    def test_all_flips_cross_as_often_as_the_sides_are_long(self):
        for rows, columns in plain.BOARDS:
            with self.subTest((rows, columns)):
                self.assertEqual(seams((rows, columns), tuple(range(2 * rows * columns))), (rows % 2, columns % 2))

    def test_flips_that_light_nothing_but_cross_a_seam(self):
        for rows, columns in plain.BOARDS:
            board = (rows, columns)
            with self.subTest(board):
                row = tuple(range(0, 2 * columns, 2))
                column = tuple(range(1, 2 * rows * columns, 2 * columns))
                self.assertEqual(checks(board, row), ())
                self.assertEqual(seams(board, row), (1, 0))
                self.assertEqual(checks(board, column), ())
                self.assertEqual(seams(board, column), (0, 1))
                self.assertEqual(checks(board, tuple(sorted(row + column))), ())
                self.assertEqual(seams(board, tuple(sorted(row + column))), (1, 1))

    def test_as_the_document_says_on_every_board(self):
        for board in plain.BOARDS:
            for flips in plain.some_of(plain.many_edges(board)):
                with self.subTest(board, flips=flips):
                    self.assertEqual(seams(board, flips), plain.crossed(board, flips))


class After(unittest.TestCase):
    def test_what_is_in_one_of_both_not_in_both(self):
        self.assertEqual(after((3, 3), (), ()), ())
        self.assertEqual(after((3, 3), (0, 5), ()), (0, 5))
        self.assertEqual(after((3, 3), (), (0, 5)), (0, 5))
        self.assertEqual(after((3, 3), (0, 5), (0, 5)), ())
        self.assertEqual(after((3, 3), (0, 5, 17), (1, 5, 16)), (0, 1, 16, 17))
        self.assertEqual(after((3, 3), (16,), (2, 3)), (2, 3, 16))
        self.assertEqual(after((3, 3), tuple(range(18)), (0, 17)), tuple(range(1, 17)))

    def test_on_every_board(self):
        for board in plain.BOARDS:
            some = plain.some_of(plain.many_edges(board))
            for one, other in zip(some, some[3:] + some[:3]):
                with self.subTest(board, one=one, other=other):
                    told = tuple(sorted(set(one) ^ set(other)))
                    self.assertEqual(after(board, one, other), told)
                    self.assertEqual(after(board, other, one), told)
                    self.assertEqual(after(board, one, one), ())


class EveryAnswer(unittest.TestCase):
    def test_tuples_of_whole_numbers(self):
        for board in ((2, 2), (3, 4), (5, 5)):
            for flips in plain.some_of(plain.many_edges(board)):
                for told in (checks(board, flips), seams(board, flips), after(board, flips, (0, 3))):
                    self.assertIs(told.__class__, tuple)
                    self.assertEqual([number for number in told if number.__class__ is not int], [])

    def test_asked_again_the_same_is_told(self):
        for _ in range(3):
            self.assertEqual(checks((3, 4), (6, 17)), (3, 8))
            self.assertEqual(seams((3, 4), (6, 17)), (1, 1))
            self.assertEqual(after((3, 4), (6, 17), (6, 7)), (7, 17))
            self.assertEqual(checks((4, 3), (6, 17)), (3, 4, 8, 11))

    def test_what_is_refused_changes_nothing(self):
        board, flips = [3, 3], [0, 1]
        with plain.refused(self, BadBoard):
            checks(board, (0, 1))
        with plain.refused(self, BadFlips, 0):
            checks((3, 3), flips)
        with plain.refused(self, BadFlips, 0):
            after((3, 3), (flips,), ())
        self.assertEqual((board, flips), ([3, 3], [0, 1]))
        self.assertEqual(checks((3, 3), (0, 1)), (1, 3))


if __name__ == "__main__":
    unittest.main()
