"""Promises 8 to 10: what beats tell, stories, judged."""

import unittest
from itertools import combinations

from seamboard import beats as beats_file
from seamboard.beats import judged, stories
from seamboard.errors import BadBoard, BadCount, BadStory, BadTold, TooMany
from tests import plain

NO_COUNTS = [0, 10, -1, 99, 10 ** 30, None, True, False, "", "1", (), (1,), [], [1]]

CALLS = [stories, lambda board, told, **more: judged(board, told, [((), ())] * 5, **more)]


def all_sites(board):
    """All rising tuples of sites of a board."""
    sites = range(plain.many_sites(board))
    return [some for many in range(len(sites) + 1) for some in combinations(sites, many)]


def unfit_told(board):
    """Pairs of what beats can't tell, and the number that is asked for it."""
    told = [(things, 0) for things in plain.NO_TUPLES if things != [(0,)]]
    told += [([()], 0), ([(0, 1)], 0), ((), 0), ("", 0)]
    for lit, _ in plain.unfit(plain.many_sites(board)):
        told += [((lit,), 0), ((lit, ()), 0), (((0,), lit), 1), (((), (0, 1), lit, (0,)), 2), ((lit, lit), 0)]
        told += [(((),) * 4 + (lit,), 4), (((),) * 5 + (lit,), 5), (((0,),) + (lit,) * 6, 1), (((),) * 3 + (lit,), 3)]
    told += [(((),) * 6, 5), (((0, 1),) * 7, 5), (((0,),) * 6, 5), (((),) * 5 + ((0,), ()), 5)]
    for many in range(1, 6):
        told += [(((),) * (many - 1) + ((0,),), many - 1), (((0,),) * many, many - 1)]
        told += [(((0, 1),) * (many - 1) + ((0, 1, 3),), many - 1)]
    return told


def unfit_stories(board, many):
    """Pairs of what is no story of so many beats, and the number that is asked for it."""
    fine = ((0,), (0, 1))
    things = (None, True, False, 0, 1, 5, "", "ab", (), fine, (fine,) * many, ((), ()))
    told = [(thing, 0) for thing in things]
    unfit = [None, True, False, 0, 5, "", "ab", (), ((),), ((), (), ()), [], [(), ()], [(0,), (0, 1)], (0, 1)]
    unfit += [(None, ()), ((), None), ([], ()), ((), []), ("", ()), ((), ""), (True, False), (fine, ()), ((0,), fine)]
    unfit += [(flips, (0,)) for flips, _ in plain.unfit(plain.many_edges(board))]
    unfit += [((0,), sites) for sites, _ in plain.unfit(plain.many_sites(board))]
    for pair in unfit:
        for number in (0, many - 1):
            told.append(([fine] * number + [pair] + [fine] * (many - 1 - number), number))
            told.append(([fine] * number + [pair] * (many + 1), number))
        told.append(([fine] * many + [pair], many))
    told += [([fine] * less, less) for less in range(many)]
    told += [([fine] * (many + more), many) for more in (1, 2, 7)]
    return told


def explain(board, told, flips):
    """The story by these flips of each beat: at each site that tells otherwise there is a lie."""
    story = []
    flipped = set()
    for sites, now in zip(told, flips):
        flipped ^= set(now)
        shown = plain.lit(board, tuple(sorted(flipped)))
        story.append((now, tuple(sorted(set(shown) ^ set(sites)))))
    return story


def sum_of(story, flip, lie):
    return sum(flip * len(flips) + lie * len(liars) for flips, liars in story)


def over_all(story):
    """The flips of all beats behind one another."""
    flipped = set()
    for flips, _ in story:
        flipped ^= set(flips)
    return tuple(sorted(flipped))


def some_told(board):
    """What some beats tell, one to five of them, with eight changes at most."""
    many = plain.many_sites(board)
    told = [((),), ((), ()), ((),) * 5, ((0, 1),), ((), (0, 1)), ((0, 1), ()), ((0,), ()), ((0,), (0, many - 1))]
    told += [((0,), (0,), (0, 1), (0, 1)), ((0, 1), (0, 1), (0, 1), (0, 1), (0, 1)), ((0,), (), (0,), (), ())]
    told += [((1,), (1, 2), (1,), (1, 3), ()), ((0, 1, 2), (0,), (), (many - 2, many - 1)), ((0, many - 1), (1, 2))]
    told += [((0, 1, 2, 3), (0, 1, 2, 3), ()), ((), (0, 1, 2), (0, 1, 2), (0, 2)), ((2,), (), (), (), (0, 3))]
    if many >= 9:
        told += [(tuple(range(8)),), ((0, 2, 4), (0, 2, 4, 6, 8), (2, 4, 6, 7), (2, 4, 6, 7), (2, 4, 6, 7))]
    return told


class Interface(unittest.TestCase):
    def test_each_function_stands_in_its_file_with_its_arguments(self):
        told = {"stories": "(board, told, *, flip=1, lie=1)", "judged": "(board, told, story, *, flip=1, lie=1)"}
        for name, arguments in told.items():
            with self.subTest(name):
                function = getattr(beats_file, name)
                self.assertEqual(function.__module__, "seamboard.beats")
                self.assertEqual(plain.arguments(function), arguments)

    def test_counts_are_handed_in_by_their_name_alone(self):
        self.assertRaises(TypeError, lambda: stories((2, 2), ((),), 1, 1))
        self.assertRaises(TypeError, lambda: judged((2, 2), ((),), [((), ())], 1, 1))
        self.assertEqual(stories(board=(2, 2), told=((),), lie=1, flip=1), stories((2, 2), ((),)))
        self.assertEqual(judged(board=(2, 2), told=((),), story=[((), ())], lie=1, flip=1), (0, (0, 0)))


class Refusals(unittest.TestCase):
    def test_what_is_no_board(self):
        for board in plain.NO_BOARDS:
            with self.subTest(board):
                for told in (None, ((),), ((0,),)):
                    with plain.refused(self, BadBoard):
                        stories(board, told, flip=0, lie=0)
                    with plain.refused(self, BadBoard):
                        judged(board, told, None, flip=0, lie=0)

    def test_what_beats_cannot_tell(self):
        for board in ((2, 2), (2, 3), (3, 3), (5, 4), (5, 5)):
            for told, number in unfit_told(board):
                with self.subTest(board, told=told):
                    with plain.refused(self, BadTold, number):
                        stories(board, told, flip=0, lie=None)
                    with plain.refused(self, BadTold, number):
                        judged(board, told, None, flip=0, lie=None)

    def test_an_odd_count_is_refused_at_the_last_beat_alone_and_behind_what_cannot_be(self):
        self.assertEqual(len(stories((3, 3), ((0,), (0, 1, 2), ()))), 4)
        with plain.refused(self, BadTold, 2):
            stories((3, 3), ((0,), (0, 1, 2), (3,)))
        with plain.refused(self, BadTold, 2):
            stories((3, 3), ((), (0,), (9,)))
        with plain.refused(self, BadTold, 5):
            stories((3, 3), ((),) * 4 + ((0,), ()))
        with plain.refused(self, BadTold, 1):
            judged((3, 3), ((), (0, 0), (0,)), [])

    def test_five_beats_are_not_too_many(self):
        for board in plain.BOARDS:
            self.assertEqual(stories(board, ((),) * 5)[0], (0, [((), ())] * 5))
            self.assertEqual(judged(board, ((),) * 5, [((), ())] * 5), (0, (0, 0)))

    def test_what_is_no_story(self):
        for board in ((2, 2), (3, 3), (5, 4)):
            for many in (1, 2, 5):
                for story, number in unfit_stories(board, many):
                    with self.subTest(board, many=many, story=story):
                        with plain.refused(self, BadStory, number):
                            judged(board, ((),) * many, story, flip=0, lie=None)

    def test_what_a_flip_and_a_lie_cannot_cost(self):
        for call in CALLS:
            for count in NO_COUNTS:
                for more in ({"flip": count}, {"lie": count}, {"flip": count, "lie": count}, {"flip": 9, "lie": count}):
                    with self.subTest(more):
                        with plain.refused(self, BadCount):
                            call((3, 3), ((),) * 5, **more)

    def test_1_to_9_are_no_refusal(self):
        for flip in range(1, 10):
            for lie in range(1, 10):
                told = ((0, 1), (0, 1), ())
                story = [((), (0, 1)), ((0,), ()), ((0,), ())]
                self.assertEqual(judged((3, 3), told, story, flip=flip, lie=lie), (2 * flip + 2 * lie, (0, 0)))
                self.assertEqual(stories((3, 3), told, flip=flip, lie=lie)[0][0], min(2 * flip, 4 * lie))

    def test_more_than_eight_changes(self):
        everything = tuple(range(10))
        for told in ((everything,), ((), everything), (everything[:5], (), everything[:4]),
                     (everything[:9], everything), ((0,), (1,), (2,), (3,), (4, 5)),
                     ((0, 1), (2, 3), (0, 1), ()), ((0, 1, 2), (), (0, 1, 2), ())):
            self.assertGreater(len(plain.changes(told)), 8)
            for board in ((2, 5), (5, 2), (5, 5)):
                with self.subTest(board, told=told):
                    for count in (1, 0, None):
                        with plain.refused(self, TooMany):
                            stories(board, told, flip=count, lie=count)

    def test_eight_changes_are_not_too_many(self):
        eight = tuple(range(8))
        for told in ((eight,), ((), eight), (eight,) * 5, (eight[:4], ()), ((0, 1), (), (0, 1), ()),
                     ((), (0, 1), (2, 3), (0, 3)), ((0,), (1,), (2,), (3,), ()), ((0, 1, 2), (), (0,), (), ())):
            with self.subTest(told):
                self.assertLessEqual(len(plain.changes(told)), 8)
                self.assertEqual(len(stories((5, 5), told)), 4)
                with plain.refused(self, BadCount):
                    stories((5, 5), told, flip=0)

    def test_an_odd_count_is_refused_ahead_of_too_many(self):
        with plain.refused(self, BadTold, 0):
            stories((3, 3), (tuple(range(9)),))
        with plain.refused(self, BadTold, 1):
            stories((5, 5), (tuple(range(12)), (0,)), flip=0)

    def test_many_changes_are_judged(self):
        told = ((0, 1, 2, 3, 4, 5, 6, 7, 8), (0, 1))
        self.assertEqual(judged((3, 3), told, [((0,), (2, 3, 4, 5, 6, 7, 8)), ((), ())]), (8, (0, 0)))

    def test_what_is_handed_in_first_is_refused_first(self):
        with plain.refused(self, BadTold, 0):
            judged((3, 3), (), [], flip=0)
        with plain.refused(self, BadStory, 0):
            judged((3, 3), ((),), [], flip=0)
        with plain.refused(self, BadCount):
            judged((3, 3), ((),), [((0,), ())], lie=0)


class Judged(unittest.TestCase):
    def test_told_stories(self):
        told = ((0,), (0, 1))
        self.assertEqual(judged((3, 3), told, [((), (0,)), ((0,), ())]), (2, (0, 0)))
        self.assertEqual(judged((3, 3), told, [((0,), (1,)), ((), ())]), (2, (0, 0)))
        self.assertEqual(judged((3, 3), told, [((0,), (1,)), ((), ())], flip=3, lie=7), (10, (0, 0)))
        self.assertEqual(judged((3, 3), told, [((0,), (1,)), ((), ())], lie=7), (8, (0, 0)))
        self.assertEqual(judged((3, 3), told, [((2, 4), (1,)), ((), ())], flip=2), (5, (1, 0)))
        self.assertEqual(judged((3, 3), told, [((), (0,)), ((0, 1, 7, 13), ())]), (5, (0, 1)))
        self.assertEqual(judged((3, 3), ((),), [((0, 1, 2, 4, 7, 13), ())]), (6, (1, 1)))

    def test_flips_stay_flipped(self):
        told = ((0, 1),) * 5
        self.assertEqual(judged((3, 3), told, [((0,), ())] + [((), ())] * 4), (1, (0, 0)))
        self.assertIsNone(judged((3, 3), told, [((0,), ())] * 5))
        self.assertEqual(judged((3, 3), ((0, 1), ()) * 2, [((0,), ())] * 4), (4, (0, 0)))
        self.assertEqual(judged((3, 3), ((0, 2), ()), [((4,), ()), ((4,), ())], flip=9), (18, (0, 0)))

    def test_seams_are_those_of_all_flips_behind_one_another(self):
        self.assertEqual(judged((3, 3), ((0, 2), ()), [((4,), ()), ((0, 2), ())]), (3, (1, 0)))
        self.assertEqual(judged((3, 3), ((0, 2), ()), [((0, 2), ()), ((4,), ())]), (3, (1, 0)))
        self.assertEqual(judged((3, 3), ((0, 2), ()), [((4,), ()), ((4,), ())]), (2, (0, 0)))
        self.assertEqual(judged((3, 3), ((0, 2), (0, 2)), [((4,), ()), ((13, 15), (0, 1))]), None)
        self.assertEqual(judged((2, 2), ((0, 2), ()), [((5,), ()), ((1,), ())]), (2, (0, 1)))

    def test_a_lie_at_the_last_beat(self):
        self.assertIsNone(judged((3, 3), ((0, 1),), [((), (0, 1))]))
        self.assertIsNone(judged((3, 3), ((), (0, 1)), [((), ()), ((), (0, 1))]))
        self.assertIsNone(judged((3, 3), ((0, 1), (0, 1)), [((), (0, 1)), ((), (0, 1))]))
        self.assertEqual(judged((3, 3), ((0, 1), ()), [((), (0, 1)), ((), ())]), (2, (0, 0)))

    def test_what_the_beats_do_not_tell(self):
        self.assertIsNone(judged((3, 3), ((0, 1),), [((), ())]))
        self.assertIsNone(judged((3, 3), ((),), [((0,), ())]))
        self.assertIsNone(judged((3, 3), ((0,), ()), [((), ()), ((), ())]))
        self.assertIsNone(judged((3, 3), ((), ()), [((), (0,)), ((), ())]))
        self.assertIsNone(judged((3, 3), ((0, 1), (0, 2)), [((0,), ()), ((0,), ())]))

    def test_every_story_of_the_least_board(self):
        every = [tuple(edge for edge in range(8) if bits >> edge & 1) for bits in range(256)]
        for sites in all_sites((2, 2)):
            for flips in every[::3]:
                told = (sites, plain.lit((2, 2), flips))
                for first in every[::29]:
                    second = tuple(sorted(set(first) ^ set(flips)))
                    story = explain((2, 2), told, [first, second])
                    worth = (sum_of(story, 3, 5), plain.crossed((2, 2), flips))
                    self.assertEqual(judged((2, 2), told, story, flip=3, lie=5), worth)
                    for at in range(4):
                        liars = tuple(sorted({at} ^ set(story[0][1])))
                        self.assertIsNone(judged((2, 2), told, [(first, liars), story[1]]))
                    other = [(tuple(sorted({7} ^ set(first))), story[0][1]), story[1]]
                    self.assertIsNone(judged((2, 2), told, other))

    def test_the_story_is_neither_changed_nor_kept(self):
        story = [((), (0,)), ((0,), ())]
        kept = list(story)
        told = ((0,), (0, 1))
        for _ in range(3):
            self.assertEqual(judged((3, 3), told, story), (2, (0, 0)))
            self.assertEqual(story, kept)
        story[0] = ((), (1,))
        self.assertIsNone(judged((3, 3), told, story))
        story.clear()
        with plain.refused(self, BadStory, 0):
            judged((3, 3), told, story)
        self.assertEqual(judged((3, 3), told, kept), (2, (0, 0)))


class Stories(unittest.TestCase):
    def judge(self, board, told, flip, lie, ways):
        """Told stories are judged as told, and made of what a story is made of."""
        self.assertIs(ways.__class__, list)
        self.assertEqual(len(ways), 4)
        for crossed, way in zip(plain.CROSSINGS, ways):
            self.assertIs(way.__class__, tuple)
            cost, story = way
            self.assertIs(story.__class__, list)
            self.assertEqual(judged(board, told, story, flip=flip, lie=lie), (cost, crossed))
            self.assertEqual(story, explain(board, told, [flips for flips, _ in story]))
            self.assertEqual(story[-1][1], ())
            self.assertEqual(cost, sum_of(story, flip, lie))
            self.assertEqual(plain.crossed(board, over_all(story)), crossed)

    def compare(self, board, told, flip, lie, costs):
        ways = stories(board, told, flip=flip, lie=lie)
        self.judge(board, told, flip, lie, ways)
        self.assertEqual([cost for cost, _ in ways], costs, (board, told, flip, lie))

    def test_told_beats(self):
        self.assertEqual(stories((3, 3), ((),))[0], (0, [((), ())]))
        self.assertEqual(stories((3, 3), ((0, 1),))[0], (1, [((0,), ())]))
        self.assertEqual(stories((3, 3), ((0,), ()))[0], (1, [((), (0,)), ((), ())]))
        self.assertEqual(stories((3, 3), ((0,), ()), lie=9)[0], (9, [((), (0,)), ((), ())]))
        self.assertEqual(stories((3, 3), ((0, 1), ()), lie=9)[0], (2, [((0,), ()), ((0,), ())]))
        self.assertEqual(stories((3, 3), ((0, 1), ()), flip=9)[0], (2, [((), (0, 1)), ((), ())]))
        self.assertEqual(stories((3, 3), ((), (0, 1), (0, 1)), flip=9)[0], (9, [((), ()), ((0,), ()), ((), ())]))
        self.assertEqual([cost for cost, _ in stories((3, 4), ((),) * 3)], [0, 3, 4, 7])
        self.assertEqual([cost for cost, _ in stories((3, 4), ((),) * 3, flip=2, lie=9)], [0, 6, 8, 14])

    def test_one_beat_of_the_least_board(self):
        for sites in all_sites((2, 2)):
            if len(sites) % 2 == 0:
                for flip, lie in ((1, 1), (9, 1), (4, 3)):
                    costs = plain.least_beat_by_beat((2, 2), (sites,), flip, lie)
                    self.compare((2, 2), (sites,), flip, lie, costs)

    def test_two_beats_of_the_least_board_by_going_through_all_flips(self):
        every = [tuple(edge for edge in range(8) if bits >> edge & 1) for bits in range(256)]
        marks = [plain.mark_of((2, 2), flips) for flips in every]
        for told, flip, lie in ((((0,), (0, 1)), 1, 1), (((0, 3), ()), 1, 2), (((1, 2, 3), (1, 2)), 3, 1)):
            shown = plain.mark_of_lit(told[0]) // 4
            best = {}
            for first, mark in zip(every, marks):
                lies = bin(mark // 4 ^ shown).count("1")
                for second, more in zip(every, marks):
                    cost = flip * (len(first) + len(second)) + lie * lies
                    best[mark ^ more] = min(cost, best.get(mark ^ more, cost))
            begin = plain.mark_of_lit(told[1])
            costs = [best[begin + place] for place in range(4)]
            self.assertEqual(costs, plain.least_beat_by_beat((2, 2), told, flip, lie))
            self.compare((2, 2), told, flip, lie, costs)

    def test_two_beats_of_the_least_board(self):
        for first in all_sites((2, 2)):
            for second in all_sites((2, 2)):
                if len(second) % 2 == 0:
                    for flip, lie in ((1, 1), (1, 3), (5, 2)):
                        told = (first, second)
                        costs = plain.least_beat_by_beat((2, 2), told, flip, lie)
                        self.compare((2, 2), told, flip, lie, costs)

    def test_more_beats_of_small_boards(self):
        for board in ((2, 2), (2, 3), (3, 2)):
            for number, told in enumerate(some_told(board)):
                if len(plain.changes(told)) <= 8:
                    flip, lie = 1 + number % 3, 1 + number * 5 % 4
                    costs = plain.least_beat_by_beat(board, told, flip, lie)
                    self.compare(board, told, flip, lie, costs)

    def test_three_by_three(self):
        for told, flip, lie in ((((0, 4), (4,), (4, 8)), 1, 1), (((1,), (3, 5)), 2, 3), (((0, 1, 3, 4), (0, 8)), 3, 1)):
            costs = plain.least_beat_by_beat((3, 3), told, flip, lie)
            self.compare((3, 3), told, flip, lie, costs)

    def test_every_board_by_joining_two_by_two(self):
        for board in plain.BOARDS:
            for told in some_told(board):
                spots = plain.changes(told)
                if len(spots) > 8:
                    continue
                for flip, lie in ((1, 1), (2, 7), (9, 1)):
                    costs = plain.least_two_by_two(board, spots, flip, lie)
                    self.compare(board, told, flip, lie, costs)

    def test_both_ways_of_finding_costs_agree(self):
        for told in some_told((2, 3)):
            spots = plain.changes(told)
            if len(spots) <= 8:
                for flip, lie in ((1, 2), (3, 1)):
                    costs = plain.least_beat_by_beat((2, 3), told, flip, lie)
                    self.assertEqual(plain.least_two_by_two((2, 3), spots, flip, lie), costs)

    def test_flip_and_lie_are_1_unless_told(self):
        told = ((0,), (0, 4), (1, 4))
        self.assertEqual(stories((3, 3), told), stories((3, 3), told, flip=1, lie=1))
        self.assertEqual(stories((3, 3), told, flip=4), stories((3, 3), told, flip=4, lie=1))
        self.assertEqual(stories((3, 3), told, lie=4), stories((3, 3), told, flip=1, lie=4))
        story = [((), (0,)), ((), (0, 4)), ((2, 8), ())]
        shown = ((0,), (0, 4), plain.lit((3, 3), (2, 8)))
        self.assertEqual(judged((3, 3), shown, story), (5, (0, 0)))
        self.assertEqual(judged((3, 3), shown, story, flip=4), (11, (0, 0)))
        self.assertEqual(judged((3, 3), shown, story, lie=4), (14, (0, 0)))

    def test_lists_may_be_changed(self):
        told = ((0,), (0, 4), (1, 4))
        ways = stories((3, 3), told)
        kept = [(cost, list(story)) for cost, story in ways]
        ways[0][1].clear()
        self.assertEqual([(cost, list(story)) for cost, story in ways[1:]], kept[1:])
        ways[1][1][0] = None
        ways.pop()
        self.assertEqual(stories((3, 3), told), kept)

    def test_asked_again_the_same_is_told(self):
        for told in some_told((4, 5)):
            if len(plain.changes(told)) <= 8:
                self.assertEqual(stories((4, 5), told, lie=2), stories((4, 5), told, lie=2))


if __name__ == "__main__":
    unittest.main()
