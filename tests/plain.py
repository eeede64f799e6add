"""The document's words about the board once more, by rows and columns, for the tests to compare with."""

import contextlib
from itertools import combinations

BOARDS = [(rows, columns) for rows in range(2, 6) for columns in range(2, 6)]

NO_BOARDS = [
    None, True, False, 0, 3, 33, "", "33", "rows", [], [3, 3], (), (3,), (3, 3, 3),
    (1, 3), (3, 1), (6, 3), (3, 6), (0, 3), (3, 0), (-2, 3), (3, -2), (1, 1), (6, 6), (2, 10 ** 30),
    (True, 3), (3, True), (False, 3), (3, False), (True, True), (None, 3), (3, None), ("3", 3), (3, "3"),
    ((3,), 3), (3, (3,)), ([3], 3), (3, [3]), ((3, 3),), ((3, 3), (3, 3)), [[3, 3]],
]

NO_TUPLES = [None, True, False, 0, 1, 5, -1, "", "0", "01", [], [0], [0, 1], [(0,)]]

NO_NUMBERS = [None, True, False, "", "1", (), (1,), [], [1]]


def unfit(many):
    """Pairs of what is no rising tuple of numbers below many, and the place that is asked for it."""
    last = many - 1
    told = [(things, 0) for things in NO_TUPLES]
    for thing in NO_NUMBERS:
        told += [((thing,), 0), ((0, thing), 1), ((0, thing, last), 1), ((0, 1, 2, thing), 3), ((thing, -1), 0)]
    told += [
        ((-1,), 0), ((-1, 0, 1), 0), ((-10 ** 30,), 0), ((0, -1), 1), ((0, 1, -1), 2),
        ((many,), 0), ((last, many), 1), ((0, 1, many), 2), ((0, many, 1), 1), ((10 ** 30,), 0), ((2, 10 ** 30), 1),
        ((0, 0), 1), ((last, last), 1), ((0, 1, 1), 2), ((0, 1, 1, 2, 2), 2), ((0, 0, many), 1),
        ((1, 0), 1), ((last, 0), 1), ((0, 2, 1), 2), ((0, 1, 3, 2), 3), ((2, 1, 0), 1), ((0, 3, 1, 2), 2),
        (tuple(range(many)) + (many,), many), (tuple(range(many)) + (last,), many), (tuple(range(many)) + (0,), many),
    ]
    return told


def corners(board):
    """Each edge as the pair of (row, column) at which it begins and ends, in the order of its number."""
    rows, columns = board
    told = []
    for row in range(rows):
        for column in range(columns):
            told.append(((row, column), (row, 0 if column == columns - 1 else column + 1)))
            told.append(((row, column), (0 if row == rows - 1 else row + 1, column)))
    return told


def many_sites(board):
    return board[0] * board[1]


def many_edges(board):
    return 2 * board[0] * board[1]


def places(board):
    """All sites or faces as (row, column), in the order of their number."""
    return [(row, column) for row in range(board[0]) for column in range(board[1])]


def lit(board, flips):
    """The sites at which an odd count of flips ends."""
    ends = []
    for edge in flips:
        ends.extend(corners(board)[edge])
    return tuple(site for site, place in enumerate(places(board)) if ends.count(place) % 2 == 1)


def crossed(board, flips):
    """How many flips lead from the last column to the first one, from the last row to the first one, modulo 2."""
    rows, columns = board
    first = second = 0
    for edge in flips:
        (row, column), _ = corners(board)[edge]
        if edge % 2 == 0 and column == columns - 1:
            first += 1
        if edge % 2 == 1 and row == rows - 1:
            second += 1
    return first % 2, second % 2


def rim(board, face):
    """The four edges round a face."""
    rows, columns = board
    row, column = places(board)[face]
    below = ((row + 1) % rows) * columns + column
    righter = row * columns + (column + 1) % columns
    return [2 * face, 2 * face + 1, 2 * below, 2 * righter + 1]


def turn(board, flips, faces):
    """Flips behind which the edges round these faces were flipped, face by face."""
    now = set(flips)
    for face in faces:
        now ^= set(rim(board, face))
    return tuple(sorted(now))


def all_faces_but_the_first(board):
    """Every rising tuple of faces without face 0."""
    faces = range(1, many_sites(board))
    return [some for many in range(many_sites(board)) for some in combinations(faces, many)]


def some_of(many):
    """Rising tuples of numbers below many: none, all, each alone, all but each, steps, and runs."""
    everything = tuple(range(many))
    told = [(), everything]
    told += [(one,) for one in everything]
    told += [everything[:one] + everything[one + 1:] for one in everything]
    told += [everything[begin::step] for step in (2, 3, 5, 7) for begin in range(step)]
    told += [everything[:one] for one in range(2, many)]
    told += [tuple(one for one in everything if one * one * factor % 11 < 5) for factor in (1, 2, 3, 7, 8)]
    return told


@contextlib.contextmanager
def refused(case, error, place=None):
    """Expect just this error, and its place, if it has one."""
    with case.assertRaises(error) as caught:
        yield
    case.assertEqual(caught.exception.__class__, error)
    if place is not None:
        case.assertEqual(caught.exception.place, place)
        case.assertIs(caught.exception.place.__class__, int)
