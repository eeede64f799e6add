"""Promises 6 and 7: least, unseen, mends, with costs."""

import unittest
from itertools import combinations

from seamboard import least as least_file
from seamboard.boards import checks, seams
from seamboard.errors import BadBoard, BadCosts, BadFlips, BadLit, Odd, TooMany
from seamboard.least import least, mends, unseen
from tests import plain

SMALL = [(2, 2), (2, 3), (3, 2), (3, 3)]

# From site 0 to the right, down, to the right, down, then over both seams back to site 0.
STAIR = (0, 3, 8, 11, 13, 16)


def stair_costs(told):
    """Costs by which the edges of the stair cost 1, told ones what is told, and all others 99."""
    return tuple(told.get(edge, 1 if edge in STAIR else 99) for edge in range(18))


def even_sites(board, most=8):
    """All rising tuples of an even count of sites, up to so many."""
    sites = range(plain.many_sites(board))
    return [some for many in range(0, most + 1, 2) for some in combinations(sites, many)]


def some_sites(board):
    """Rising tuples of none, two, four, six and eight sites of a board, where it has so many."""
    told = [()]
    for some in plain.some_of(plain.many_sites(board)):
        if len(some) % 2 == 0 and len(some) <= 8 and some not in told:
            told.append(some)
    return told


def price(flips, costs):
    return sum(costs[edge] for edge in flips)


def unfit_costs(board):
    """Pairs of what are no costs of a board, and the place that is asked for it."""
    many = plain.many_edges(board)
    fine = (1,) * (many - 1) + (99,)
    told = [(things, 0) for things in (True, False, 0, 1, 5, "", "1" * many, [], [1] * many, list(fine), ())]
    for thing in (0, 100, -1, 10 ** 30, -10 ** 30, None, True, False, "", "1", (), (1,), [], [1]):
        for place in (0, 1, many // 2, many - 1):
            told.append((fine[:place] + (thing,) + fine[place + 1:], place))
        told.append((fine + (thing,), many))
        told.append((fine[:2] + (thing,), 2))
        told.append((fine[:2] + (thing, thing) + fine[4:] + (0, 0), 2))
    told += [(fine[:-1], many - 1), (fine[:1], 1), (fine + (1,), many), (fine * 2, many), (fine + fine[:3], many)]
    return told


class Interface(unittest.TestCase):
    def test_each_function_stands_in_its_file_with_its_arguments(self):
        told = {"least": "(board, lit, *, costs=None)", "unseen": "(board, *, costs=None)",
                "mends": "(board, flips, *, costs=None)"}
        for name, arguments in told.items():
            with self.subTest(name):
                function = getattr(least_file, name)
                self.assertEqual(function.__module__, "seamboard.least")
                self.assertEqual(plain.arguments(function), arguments)

    def test_costs_are_handed_in_by_their_name_alone(self):
        costs = (1,) * 8
        for call in (lambda: least((2, 2), (), costs), lambda: unseen((2, 2), costs), lambda: mends((2, 2), (), costs)):
            self.assertRaises(TypeError, call)
        self.assertEqual(least(board=(2, 2), lit=(), costs=costs), least((2, 2), ()))
        self.assertEqual(unseen(board=(2, 2), costs=costs), unseen((2, 2)))
        self.assertIs(mends(board=(2, 2), flips=(), costs=costs), True)


class Refusals(unittest.TestCase):
    def test_what_is_no_board(self):
        for board in plain.NO_BOARDS:
            with self.subTest(board):
                for costs in (None, (), 5):
                    with plain.refused(self, BadBoard):
                        least(board, None, costs=costs)
                    with plain.refused(self, BadBoard):
                        unseen(board, costs=costs)
                    with plain.refused(self, BadBoard):
                        mends(board, None, costs=costs)

    def test_sites_that_cannot_be(self):
        for board in plain.BOARDS:
            for lit, place in plain.unfit(plain.many_sites(board)):
                with self.subTest(board, lit=lit):
                    with plain.refused(self, BadLit, place):
                        least(board, lit, costs=())

    def test_flips_that_cannot_be(self):
        for board in plain.BOARDS:
            for flips, place in plain.unfit(plain.many_edges(board)):
                with self.subTest(board, flips=flips):
                    with plain.refused(self, BadFlips, place):
                        mends(board, flips, costs=())

    def test_an_odd_count_of_sites(self):
        for board in plain.BOARDS:
            everything = tuple(range(plain.many_sites(board)))
            for many in range(1, len(everything) + 1, 2):
                with self.subTest(board, many=many):
                    for costs in (None, (), "costs"):
                        with plain.refused(self, Odd):
                            least(board, everything[:many], costs=costs)
                        with plain.refused(self, Odd):
                            least(board, everything[-many:], costs=costs)

    def test_more_than_eight_sites(self):
        for board in plain.BOARDS:
            everything = tuple(range(plain.many_sites(board)))
            for many in range(10, len(everything) + 1, 2):
                with self.subTest(board, many=many):
                    for costs in (None, (), [1], (0,) * 2 * len(everything)):
                        with plain.refused(self, TooMany):
                            least(board, everything[:many], costs=costs)

    def test_eight_sites_are_not_too_many(self):
        for board in plain.BOARDS:
            everything = tuple(range(plain.many_sites(board)))
            if len(everything) >= 8:
                self.assertEqual(len(least(board, everything[-8:])), 4)
                with plain.refused(self, BadCosts, 0):
                    least(board, everything[-8:], costs=())

    def test_flips_that_light_more_than_eight_sites_are_not_mended(self):
        flips = tuple(range(0, 50, 4))
        self.assertGreater(len(checks((5, 5), flips)), 8)
        for costs in (None, (), True, (0,) * 50):
            with plain.refused(self, TooMany):
                mends((5, 5), flips, costs=costs)
        with plain.refused(self, TooMany):
            mends((2, 5), (0, 4, 9, 10, 14))

    def test_costs_that_cannot_be(self):
        for board in plain.BOARDS:
            for costs, place in unfit_costs(board):
                with self.subTest(board, costs=costs):
                    with plain.refused(self, BadCosts, place):
                        least(board, (0, 1), costs=costs)
                    with plain.refused(self, BadCosts, place):
                        unseen(board, costs=costs)
                    with plain.refused(self, BadCosts, place):
                        mends(board, (0,), costs=costs)

    def test_the_least_and_the_most_costs(self):
        for board in plain.BOARDS:
            many = plain.many_edges(board)
            for worth in (1, 99):
                ways = least(board, (0, 1), costs=(worth,) * many)
                self.assertEqual([cost for cost, _ in ways], [worth * cost for cost, _ in least(board, (0, 1))])
                self.assertEqual(ways[0], (worth, (0,)) if board[1] > 2 else (worth, ways[0][1]))


class Least(unittest.TestCase):
    def judge(self, board, lit, costs, ways):
        """Told flips light just the sites, cross the seams as told, and cost what is told."""
        self.assertIs(ways.__class__, list)
        self.assertEqual(len(ways), 4)
        for crossed, way in zip(plain.CROSSINGS, ways):
            self.assertIs(way.__class__, tuple)
            cost, flips = way
            self.assertIs(flips.__class__, tuple)
            self.assertEqual(list(flips), sorted(set(flips)))
            self.assertEqual(plain.lit(board, flips), lit)
            self.assertEqual(plain.crossed(board, flips), crossed)
            self.assertEqual(cost, price(flips, costs))
            self.assertIs(cost.__class__, int)

    def compare(self, board, lit, costs, table):
        """Told flips are as they should be, and cost what the table asks for."""
        ways = least(board, lit, costs=costs)
        self.judge(board, lit, costs, ways)
        begin = plain.mark_of_lit(lit)
        self.assertEqual([cost for cost, _ in ways], [table[begin + place] for place in range(4)], (board, lit, costs))

    def test_told_ways(self):
        self.assertEqual(least((5, 5), (0, 1))[0], (1, (0,)))
        self.assertEqual(least((5, 5), (0, 4))[2], (1, (8,)))
        self.assertEqual(least((5, 5), (0, 20))[1], (1, (41,)))
        self.assertEqual(least((3, 4), ())[0], (0, ()))
        self.assertEqual([cost for cost, _ in least((3, 4), ())], [0, 3, 4, 7])
        self.assertEqual([cost for cost, _ in least((4, 3), ())], [0, 4, 3, 7])
        self.assertEqual([cost for cost, _ in least((3, 4), (0, 1))], [1, 4, 3, 6])
        self.assertEqual([cost for cost, _ in least((3, 4), (0, 11))], [5, 4, 3, 2])
        self.assertEqual(least((3, 4), (0, 11))[3][0], 2)
        self.assertEqual([cost for cost, _ in least((2, 2), (0, 3))], [2, 2, 2, 2])

    def test_two_edges_between_the_same_two_sites(self):
        costs = (5, 1, 3, 1, 1, 1, 1, 1)
        self.assertEqual(least((2, 2), (0, 1), costs=costs)[2], (3, (2,)))
        self.assertEqual(least((2, 2), (0, 1), costs=costs)[0], (3, (1, 3, 4)))
        self.assertEqual(least((2, 2), (0, 1), costs=(2, 9, 3, 9, 9, 9, 9, 9))[0], (2, (0,)))
        self.assertEqual(least((2, 2), (), costs=(2, 9, 3, 9, 9, 9, 9, 9))[2], (5, (0, 2)))

    def test_small_boards_by_going_through_all_flips(self):
        for board in ((2, 2), (2, 3), (3, 2)):
            for number in range(6):
                costs = plain.costs_of(board, number) if number else (1,) * plain.many_edges(board)
                table = plain.least_by_all_flips(board, costs)
                self.assertEqual(table, plain.least_edge_by_edge(board, costs))
                for lit in even_sites(board):
                    self.compare(board, lit, costs, table)

    def test_small_boards_edge_by_edge(self):
        for board in ((2, 4), (4, 2), (3, 3), (2, 5), (5, 2), (3, 4)):
            for number in range(1, 6):
                costs = plain.costs_of(board, number)
                table = plain.least_edge_by_edge(board, costs)
                for lit in even_sites(board) if plain.many_sites(board) < 10 else some_sites(board):
                    self.compare(board, lit, costs, table)

    def test_a_greater_board_edge_by_edge(self):
        costs = plain.costs_of((4, 4), 3)
        table = plain.least_edge_by_edge((4, 4), costs)
        for lit in some_sites((4, 4)):
            self.compare((4, 4), lit, costs, table)

    def test_where_few_edges_are_cheap(self):
        # The least flips are a long way of cheap edges, and a round apart from what joins the sites.
        for board in SMALL:
            for cheap in plain.some_of(plain.many_edges(board)):
                costs = tuple(1 if edge in cheap else 99 for edge in range(plain.many_edges(board)))
                table = plain.least_edge_by_edge(board, costs)
                for lit in even_sites(board, 2)[::5] + [()]:
                    self.compare(board, lit, costs, table)

    def test_without_costs_every_edge_costs_1(self):
        for board in plain.BOARDS:
            costs = (1,) * plain.many_edges(board)
            for lit in some_sites(board)[::3]:
                with self.subTest(board, lit=lit):
                    ways = least(board, lit)
                    self.judge(board, lit, costs, ways)
                    self.assertEqual(ways, least(board, lit, costs=costs))
                    self.assertEqual(ways, least(board, lit, costs=None))
                    spots = [(0, site) for site in lit]
                    self.assertEqual([cost for cost, _ in ways], plain.least_two_by_two(board, spots, 1, 1))

    def test_greater_boards_with_costs(self):
        for board in ((4, 5), (5, 4), (5, 5), (3, 5)):
            for number, lit in enumerate(some_sites(board)[::2]):
                costs = plain.costs_of(board, number)
                with self.subTest(board, lit=lit):
                    self.judge(board, lit, costs, least(board, lit, costs=costs))

    def test_a_face_or_a_round_does_not_make_it_cheaper(self):
        board = (5, 5)
        costs = plain.costs_of(board, 7)
        rounds = [flips for _, flips in least(board, (), costs=costs)]
        for lit in ((), (0, 24), (3, 7, 11, 15), (0, 2, 4, 10, 12, 14, 20, 22)):
            ways = least(board, lit, costs=costs)
            for place, (cost, flips) in enumerate(ways):
                for face in range(25):
                    self.assertGreaterEqual(price(plain.turn(board, flips, (face,)), costs), cost)
                for other, turn in enumerate(rounds):
                    moved = set(flips) ^ set(turn)
                    self.assertGreaterEqual(price(moved, costs), ways[place ^ other][0])


class Unseen(unittest.TestCase):
    def test_without_costs_it_is_the_shorter_side(self):
        for rows, columns in plain.BOARDS:
            with self.subTest((rows, columns)):
                cost, crossed, flips = unseen((rows, columns))
                self.assertEqual(cost, min(rows, columns))
                self.assertEqual(crossed, (0, 1) if rows <= columns else (1, 0))
                self.assertEqual(len(flips), cost)
                self.assertEqual(checks((rows, columns), flips), ())
                self.assertEqual(seams((rows, columns), flips), crossed)

    def test_by_costs(self):
        seen = set()
        for board in SMALL:
            for number in range(40):
                costs = plain.costs_of(board, number)
                table = plain.least_edge_by_edge(board, costs)
                told = unseen(board, costs=costs)
                self.assertIs(told.__class__, tuple)
                cost, crossed, flips = told
                self.assertEqual((cost, plain.CROSSINGS.index(crossed)), min((table[at], at) for at in (1, 2, 3)))
                self.assertEqual((plain.lit(board, flips), plain.crossed(board, flips)), ((), crossed))
                self.assertEqual(price(flips, costs), cost)
                seen.add(crossed)
        self.assertEqual(seen, {(0, 1), (1, 0), (1, 1)})

    def test_both_seams_crossed_cost_the_least(self):
        self.assertEqual(unseen((3, 3), costs=stair_costs({})), (6, (1, 1), STAIR))
        self.assertEqual(unseen((3, 3), costs=stair_costs({2: 3, 4: 3})), (6, (1, 1), STAIR))
        self.assertEqual(unseen((3, 3), costs=stair_costs({2: 2, 4: 2})), (5, (1, 0), (0, 2, 4)))
        self.assertEqual(unseen((3, 3), costs=stair_costs({1: 2, 7: 2})), (5, (0, 1), (1, 7, 13)))

    def test_of_several_seams_the_first(self):
        self.assertEqual(unseen((3, 3))[:2], (3, (0, 1)))
        self.assertEqual(unseen((2, 2), costs=(1, 9, 1, 9, 9, 9, 9, 9))[:2], (2, (1, 0)))
        self.assertEqual(unseen((3, 3), costs=stair_costs({2: 2, 4: 3})), (6, (1, 0), (0, 2, 4)))
        self.assertEqual(unseen((3, 3), costs=stair_costs({1: 2, 7: 3})), (6, (0, 1), (1, 7, 13)))
        self.assertEqual(unseen((3, 3), costs=stair_costs({1: 3, 2: 2, 4: 3, 7: 2})), (6, (0, 1), (1, 7, 13)))
        self.assertEqual(unseen((3, 3), costs=stair_costs({1: 3, 2: 2, 4: 2, 7: 2})), (5, (1, 0), (0, 2, 4)))


class Mends(unittest.TestCase):
    def test_told_flips(self):
        self.assertIs(mends((5, 5), ()), True)
        self.assertIs(mends((5, 5), (0,)), True)
        self.assertIs(mends((3, 3), (0, 2)), False)
        self.assertIs(mends((3, 3), (0, 2, 4)), False)
        self.assertIs(mends((5, 5), (0, 2, 4)), False)
        self.assertIs(mends((5, 5), (0, 2)), True)
        self.assertIsNone(mends((4, 4), (0, 2)))
        self.assertIsNone(mends((2, 2), (0,)))
        self.assertIs(mends((2, 2), (0, 2)), False)
        self.assertIs(mends((2, 2), (0, 1, 3, 4)), True)

    def test_flips_that_are_alike_to_the_least_are_mended(self):
        for board in plain.BOARDS:
            for faces in ((0,), (1, 2), (0, 3), (1,), tuple(range(plain.many_sites(board)))):
                self.assertIs(mends(board, plain.turn(board, (), faces)), True)

    def test_costs_tell(self):
        costs = (9, 1, 1, 9, 9, 9, 9, 9)
        self.assertIs(mends((2, 2), (0,), costs=costs), False)
        self.assertIs(mends((2, 2), (2,), costs=costs), True)
        self.assertIsNone(mends((2, 2), (2,), costs=(1,) + costs[1:]))

    def test_small_boards_with_and_without_costs(self):
        seen = []
        for board in SMALL:
            for number in range(5):
                costs = plain.costs_of(board, number) if number else (1,) * plain.many_edges(board)
                table = plain.least_edge_by_edge(board, costs)
                for flips in plain.some_of(plain.many_edges(board)):
                    mark = plain.mark_of(board, flips)
                    others = min(table[mark ^ place] for place in (1, 2, 3))
                    told = None if table[mark] == others else table[mark] < others
                    self.assertIs(mends(board, flips, costs=costs), told)
                    self.assertTrue(number or mends(board, flips) is told)
                    seen.append(told)
        self.assertEqual(set(seen), {True, False, None})


class EveryAnswer(unittest.TestCase):
    def test_lists_may_be_changed(self):
        first = least((3, 4), (0, 7))
        kept = list(first)
        first[0] = None
        first.clear()
        self.assertEqual(least((3, 4), (0, 7)), kept)

    def test_asked_again_the_same_is_told(self):
        costs = plain.costs_of((4, 5), 9)
        for lit in ((), (0, 13), (1, 5, 8, 19)):
            self.assertEqual(least((4, 5), lit, costs=costs), least((4, 5), lit, costs=costs))
            self.assertEqual(least((4, 5), lit), least((4, 5), lit))
        self.assertEqual(unseen((4, 4)), unseen((4, 4)))
        self.assertEqual(unseen((4, 5), costs=costs), unseen((4, 5), costs=costs))

    def test_what_is_refused_changes_nothing(self):
        lit, costs = [0, 1], [1] * 18
        with plain.refused(self, BadLit, 0):
            least((3, 3), lit, costs=costs)
        with plain.refused(self, BadCosts, 0):
            least((3, 3), (0, 1), costs=costs)
        self.assertEqual((lit, costs), ([0, 1], [1] * 18))


if __name__ == "__main__":
    unittest.main()
