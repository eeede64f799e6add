"""The document's words about the board once more, by rows and columns, for the tests to compare with."""

import contextlib
import inspect
from itertools import combinations

BOARDS = [(rows, columns) for rows in range(2, 6) for columns in range(2, 6)]

NO_BOARDS = [
    None, True, False, 0, 3, 33, "", "33", "rows", [], [3, 3], (), (3,), (3, 3, 3),
    (1, 3), (3, 1), (6, 3), (3, 6), (0, 3), (3, 0), (-2, 3), (3, -2), (1, 1), (6, 6), (2, 10 ** 30),
    (True, 3), (3, True), (False, 3), (3, False), (True, True), (None, 3), (3, None), ("3", 3), (3, "3"),
    ((3,), 3), (3, (3,)), ([3], 3), (3, [3]), ((3, 3),), ((3, 3), (3, 3)), [[3, 3]],
]

NO_TUPLES = [None, True, False, 0, 1, 5, -1, "", "0", "01", [], [0], [0, 1], [(0,)]]

NO_NUMBERS = [None, True, False, "", "1", (), (1,), [], [1]]


def unfit(many):
    """Pairs of what is no rising tuple of numbers below many, and the place that is asked for it."""
    last = many - 1
    told = [(things, 0) for things in NO_TUPLES]
    for thing in NO_NUMBERS:
        told += [((thing,), 0), ((0, thing), 1), ((0, thing, last), 1), ((0, 1, 2, thing), 3), ((thing, -1), 0)]
    told += [
        ((-1,), 0), ((-1, 0, 1), 0), ((-10 ** 30,), 0), ((0, -1), 1), ((0, 1, -1), 2),
        ((many,), 0), ((last, many), 1), ((0, 1, many), 2), ((0, many, 1), 1), ((10 ** 30,), 0), ((2, 10 ** 30), 1),
        ((0, 0), 1), ((last, last), 1), ((0, 1, 1), 2), ((0, 1, 1, 2, 2), 2), ((0, 0, many), 1),
        ((1, 0), 1), ((last, 0), 1), ((0, 2, 1), 2), ((0, 1, 3, 2), 3), ((2, 1, 0), 1), ((0, 3, 1, 2), 2),
        (tuple(range(many)) + (many,), many), (tuple(range(many)) + (last,), many), (tuple(range(many)) + (0,), many),
    ]
    return told


def corners(board):
    """Each edge as the pair of (row, column) at which it begins and ends, in the order of its number."""
    rows, columns = board
    told = []
    for row in range(rows):
        for column in range(columns):
            told.append(((row, column), (row, 0 if column == columns - 1 else column + 1)))
            told.append(((row, column), (0 if row == rows - 1 else row + 1, column)))
    return told


def many_sites(board):
    return board[0] * board[1]


def many_edges(board):
    return 2 * board[0] * board[1]


def places(board):
    """All sites or faces as (row, column), in the order of their number."""
    return [(row, column) for row in range(board[0]) for column in range(board[1])]


def lit(board, flips):
    """The sites at which an odd count of flips ends."""
    ends = []
    for edge in flips:
        ends.extend(corners(board)[edge])
    return tuple(site for site, place in enumerate(places(board)) if ends.count(place) % 2 == 1)


def crossed(board, flips):
    """How many flips lead from the last column to the first one, from the last row to the first one, modulo 2."""
    rows, columns = board
    first = second = 0
    for edge in flips:
        (row, column), _ = corners(board)[edge]
        if edge % 2 == 0 and column == columns - 1:
            first += 1
        if edge % 2 == 1 and row == rows - 1:
            second += 1
    return first % 2, second % 2


def rim(board, face):
    """The four edges round a face."""
    rows, columns = board
    row, column = places(board)[face]
    below = ((row + 1) % rows) * columns + column
    righter = row * columns + (column + 1) % columns
    return [2 * face, 2 * face + 1, 2 * below, 2 * righter + 1]


def turn(board, flips, faces):
    """Flips behind which the edges round these faces were flipped, face by face."""
    now = set(flips)
    for face in faces:
        now ^= set(rim(board, face))
    return tuple(sorted(now))


def all_faces_but_the_first(board):
    """Every rising tuple of faces without face 0."""
    faces = range(1, many_sites(board))
    return [some for many in range(many_sites(board)) for some in combinations(faces, many)]


def some_of(many):
    """Rising tuples of numbers below many: none, all, each alone, all but each, steps, and runs."""
    everything = tuple(range(many))
    told = [(), everything]
    told += [(one,) for one in everything]
    told += [everything[:one] + everything[one + 1:] for one in everything]
    told += [everything[begin::step] for step in (2, 3, 5, 7) for begin in range(step)]
    told += [everything[:one] for one in range(2, many)]
    told += [tuple(one for one in everything if one * one * factor % 11 < 5) for factor in (1, 2, 3, 7, 8)]
    return told


CROSSINGS = [(0, 0), (0, 1), (1, 0), (1, 1)]


def mark_of(board, flips):
    """What flips do, as one number: the sites that they light, and behind these how they cross the seams."""
    first, second = crossed(board, flips)
    return mark_of_lit(lit(board, flips)) + 2 * first + second


def mark_of_lit(sites):
    """The number of flips that light these sites and cross no seam."""
    return sum(4 << site for site in sites)


def costs_of(board, number):
    """Some costs from 1 to 99, other ones for each number, both 1 and 99 among them."""
    many = many_edges(board)
    costs = [1 + (number * number + 31 * number * edge + 17 * edge * edge) % 99 for edge in range(many)]
    costs[number % many] = 1
    costs[(number + 3) % many] = 99
    return tuple(costs)


def least_by_all_flips(board, costs):
    """The least cost for each number of mark_of, by going through all flips."""
    marks = [mark_of(board, (edge,)) for edge in range(many_edges(board))]
    best = {}
    for bits in range(2 ** many_edges(board)):
        mark = cost = 0
        for edge, more in enumerate(costs):
            if bits >> edge & 1:
                mark ^= marks[edge]
                cost += more
        best[mark] = min(cost, best.get(mark, cost))
    return best


def least_edge_by_edge(board, costs):
    """The least cost for each number of mark_of: edge by edge, the edge may be flipped or not."""
    best = {0: 0}
    for edge, more in enumerate(costs):
        mark = mark_of(board, (edge,))
        with_edge = dict(best)
        for begin, cost in best.items():
            if cost + more < with_edge.get(begin ^ mark, cost + more + 1):
                with_edge[begin ^ mark] = cost + more
        best = with_edge
    return best


def least_beat_by_beat(board, told, flip, lie):
    """The least costs of stories for the four crossings: beat by beat, all that flips can do may be done."""
    moves = least_edge_by_edge(board, [flip] * many_edges(board))
    best = {0: 0}
    for number, sites in enumerate(told):
        shown = mark_of_lit(sites) // 4
        later = {}
        for begin, cost in best.items():
            for mark, more in moves.items():
                now = begin ^ mark
                lies = bin(now // 4 ^ shown).count("1")
                if lies == 0 or number < len(told) - 1:
                    later[now] = min(cost + more + lie * lies, later.get(now, 10 ** 9))
        best = later
    return [best[mark_of_lit(told[-1]) + place] for place in range(4)]


def changes(told):
    """The places (beat, site) where a site tells otherwise than at the beat ahead."""
    ahead = [()] + list(told)
    return [(beat, site) for beat, sites in enumerate(told) for site in sorted(set(sites) ^ set(ahead[beat]))]


def least_two_by_two(board, spots, flip, lie):
    """The least costs for the four crossings, where each flip costs the same.

    The spots (beat, site) are joined two by two in all ways, and beside these a row or a column may be flipped.
    """
    rows, columns = board
    whole = [0, rows * flip, columns * flip, (rows + columns) * flip]
    if not spots:
        return whole
    beat, site = spots[0]
    row, column = places(board)[site]
    best = [10 ** 9] * 4
    for at in range(1, len(spots)):
        rest = least_two_by_two(board, spots[1:at] + spots[at + 1:], flip, lie)
        down = abs(places(board)[spots[at][1]][0] - row)
        right = abs(places(board)[spots[at][1]][1] - column)
        for place in range(4):
            far = (rows - down if place % 2 else down) + (columns - right if place // 2 else right)
            cost = flip * far + lie * abs(spots[at][0] - beat)
            for other in range(4):
                best[place ^ other] = min(best[place ^ other], cost + rest[other])
    return best


def drawing(board, flips):
    """The drawing of flips, set sign by sign on a field of blanks."""
    rows, columns = board
    field = [[" "] * (2 * columns - at % 2) for at in range(2 * rows)]
    for site, (row, column) in enumerate(places(board)):
        field[2 * row][2 * column] = "*" if site in lit(board, flips) else "o"
        field[2 * row][2 * column + 1] = "=" if 2 * site in flips else "-"
        field[2 * row + 1][2 * column] = "#" if 2 * site + 1 in flips else "|"
    return "\n".join("".join(row) for row in field)


def arguments(function):
    """The arguments of a function, as its definition has them."""
    return str(inspect.signature(function))


@contextlib.contextmanager
def refused(case, error, value=None):
    """Expect just this error, and its place, number or row, if it has one."""
    with case.assertRaises(error) as caught:
        yield
    case.assertEqual(caught.exception.__class__, error)
    told = list(vars(caught.exception).values())
    case.assertEqual(told, [] if value is None else [value])
    case.assertEqual([number.__class__ for number in told], [int] * len(told))
