"""Promise 11: a watch, beat by beat."""

import unittest

from seamboard import watch as watch_file
from seamboard.beats import stories
from seamboard.errors import BadBoard, BadCount, BadLit, BadName, BadTold, NoPoint, TooMany
from seamboard.watch import Watch
from tests import plain

NO_COUNTS = [0, 10, -1, 10 ** 30, None, True, False, "", "1", (), (1,), [], [1]]

NO_NAMES = [
    "", "a" * 9, "abcdefghi", "A", "aB", "a1", "1", "a b", " ", " a", "a ", "a\n", "\n", "a-b", "_", "`", "{", "a.b",
    None, True, False, 0, 1, 5, (), ("a",), ("a", "b"), [], ["a"], [["a"]],
]

NAMES = ["a", "z", "ab", "zyx", "abcdefgh", "zzzzzzzz", "seam"]


def watch_of(board, *beats, **more):
    """A watch that was told these beats."""
    made = Watch(board, **more)
    for lit in beats:
        made.beat(lit)
    return made


def state_of(made):
    """All that a watch tells."""
    try:
        guessed = made.guess()
    except (BadTold, TooMany) as error:
        guessed = (error.__class__, vars(error))
    return made.told(), made.marks(), guessed


class Interface(unittest.TestCase):
    def test_the_class_stands_in_its_file_with_its_arguments(self):
        self.assertEqual(Watch.__module__, "seamboard.watch")
        self.assertIs(vars(watch_file)["Watch"], Watch)
        self.assertEqual(plain.arguments(Watch), "(board, *, flip=1, lie=1)")

    def test_each_method_stands_in_the_class_with_its_arguments(self):
        told = {"beat": "(self, lit)", "back": "(self)", "told": "(self)", "marks": "(self)", "guess": "(self)",
                "mark": "(self, name)", "go": "(self, name)"}
        for name, arguments in told.items():
            with self.subTest(name):
                self.assertEqual(plain.arguments(vars(Watch)[name]), arguments)

    def test_counts_are_handed_in_by_their_name_alone(self):
        self.assertRaises(TypeError, lambda: Watch((2, 2), 1))
        self.assertEqual(Watch(board=(2, 2), lie=2, flip=3).told(), [])

    def test_the_arguments_may_be_named(self):
        made = Watch((3, 3))
        self.assertEqual(made.beat(lit=(0, 1)), 1)
        self.assertIsNone(made.mark(name="a"))
        self.assertIsNone(made.go(name="a"))


class Making(unittest.TestCase):
    def test_what_is_no_board(self):
        for board in plain.NO_BOARDS:
            for more in ({}, {"flip": 0}, {"lie": None}):
                with self.subTest(board, more=more):
                    with plain.refused(self, BadBoard):
                        Watch(board, **more)

    def test_what_a_flip_and_a_lie_cannot_cost(self):
        for count in NO_COUNTS:
            for more in ({"flip": count}, {"lie": count}, {"flip": count, "lie": count}, {"flip": 9, "lie": count}):
                with self.subTest(more):
                    with plain.refused(self, BadCount):
                        Watch((3, 3), **more)

    def test_every_board_and_count(self):
        for board in plain.BOARDS:
            for count in range(1, 10):
                self.assertEqual(state_of(Watch(board, flip=count, lie=10 - count)), ([], [], ((0, 0), None)))


class Beats(unittest.TestCase):
    def test_how_many_there_are(self):
        made = Watch((3, 3))
        beats = [(), (0,), (0, 1, 2), (8,), tuple(range(9))]
        for number, lit in enumerate(beats):
            many = made.beat(lit)
            self.assertEqual(many, number + 1)
            self.assertIs(many.__class__, int)
            self.assertEqual(made.told(), beats[:number + 1])

    def test_a_sixth_is_refused(self):
        made = watch_of((3, 3), (), (0,), (0, 1), (1,), (2, 4))
        begin = state_of(made)
        for lit in ((), (0, 1), (0,)):
            with plain.refused(self, TooMany):
                made.beat(lit)
            self.assertEqual(state_of(made), begin)
        for lit, place in plain.unfit(9):
            with plain.refused(self, BadLit, place):
                made.beat(lit)
        self.assertIs(made.back(), True)
        self.assertEqual(made.beat((7, 8)), 5)
        self.assertEqual(made.told(), [(), (0,), (0, 1), (1,), (7, 8)])

    def test_sites_that_cannot_be(self):
        for board in plain.BOARDS:
            made = watch_of(board, (0, 1), (2,))
            made.mark("here")
            begin = state_of(made)
            for lit, place in plain.unfit(plain.many_sites(board)):
                with self.subTest(board, lit=lit):
                    with plain.refused(self, BadLit, place):
                        made.beat(lit)
                    self.assertEqual(made.told(), [(0, 1), (2,)])
            self.assertEqual(state_of(made), begin)

    def test_back(self):
        made = watch_of((3, 3), (0,), (1,), (0,))
        for left in ([(0,), (1,)], [(0,)], []):
            self.assertIs(made.back(), True)
            self.assertEqual(made.told(), left)
        for _ in range(3):
            self.assertIs(made.back(), False)
            self.assertEqual(state_of(made), ([], [], ((0, 0), None)))
        self.assertEqual(made.beat((8,)), 1)
        self.assertIs(made.back(), True)

    def test_a_new_watch_has_no_beat(self):
        made = Watch((2, 5))
        self.assertIs(made.back(), False)
        self.assertEqual(made.told(), [])

    def test_told_may_be_changed(self):
        made = watch_of((3, 3), (0,), (0, 1))
        told = made.told()
        self.assertIs(told.__class__, list)
        told[0] = None
        told.append((8,))
        self.assertEqual(made.told(), [(0,), (0, 1)])
        made.mark("a")
        made.told().clear()
        made.go("a")
        self.assertEqual(made.told(), [(0,), (0, 1)])
        self.assertEqual(made.beat(()), 3)
        self.assertEqual(told, [None, (0, 1), (8,)])


class Guess(unittest.TestCase):
    def compare(self, board, beats, flip, lie):
        spots = plain.changes(beats)
        costs = plain.least_two_by_two(board, spots, flip, lie)
        self.assertEqual([cost for cost, _ in stories(board, tuple(beats), flip=flip, lie=lie)], costs)
        least = min(costs)
        place = costs.index(least)
        more = min(costs[:place] + costs[place + 1:]) - least
        told = watch_of(board, *beats, flip=flip, lie=lie).guess()
        self.assertEqual(told, (plain.CROSSINGS[place], more))
        self.assertEqual([told.__class__, told[0].__class__, told[1].__class__], [tuple, tuple, int])
        return told

    def test_ahead_of_any_beat(self):
        made = Watch((3, 4))
        self.assertEqual(made.guess(), ((0, 0), None))
        made.beat(())
        self.assertEqual(made.guess(), ((0, 0), 3))
        made.back()
        self.assertEqual(made.guess(), ((0, 0), None))

    def test_told_beats(self):
        self.assertEqual(watch_of((3, 3), (0, 2)).guess(), ((1, 0), 1))
        self.assertEqual(watch_of((3, 3), (0, 6)).guess(), ((0, 1), 1))
        self.assertEqual(watch_of((3, 3), (0, 8)).guess(), ((1, 1), 1))
        self.assertEqual(watch_of((3, 3), (0, 8), flip=9).guess(), ((1, 1), 9))
        self.assertEqual(watch_of((3, 3), (0, 1)).guess(), ((0, 0), 1))
        self.assertEqual(watch_of((4, 4), (0, 2)).guess(), ((0, 0), 0))
        self.assertEqual(watch_of((4, 4), (3, 11)).guess(), ((0, 0), 0))
        self.assertEqual(watch_of((4, 4), (3, 9)).guess(), ((0, 0), 0))
        self.assertEqual(watch_of((5, 4), (0, 17)).guess(), ((0, 1), 2))
        self.assertEqual(watch_of((5, 4), (0, 18)).guess(), ((0, 1), 0))
        self.assertEqual(watch_of((4, 5), (0, 13)).guess(), ((1, 0), 0))
        self.assertEqual(watch_of((4, 5), (0, 8)).guess(), ((1, 0), 1))

    def test_flip_and_lie_tell(self):
        beats = [(0, 2), ()]
        # Both sites lie, or the edge between them is flipped and flipped back; else it goes round the other way.
        self.assertEqual(watch_of((5, 3), *beats).guess(), ((0, 0), 1))
        self.assertEqual(watch_of((5, 3), *beats, flip=1, lie=9).guess(), ((0, 0), 1))
        self.assertEqual(watch_of((5, 3), *beats, flip=2, lie=1).guess(), ((0, 0), 4))
        told = [(0,), (0, 2), (2,), (1, 2)]
        seen = {self.compare((5, 3), told, flip, lie) for flip in (1, 3, 9) for lie in (1, 4, 9)}
        self.assertGreater(len(seen), 3)

    def test_every_board(self):
        seen = set()
        for board in plain.BOARDS:
            many = plain.many_sites(board)
            for other in range(1, many):
                seen.add(self.compare(board, [(0, other)], 1, 1)[0])
                self.compare(board, [(other,), (0, other), (0, many - 1)][:2 + (other < many - 1)], 2, 3)
            self.compare(board, [()] * 5, 3, 1)
        self.assertEqual(seen, set(plain.CROSSINGS))

    def test_refusals_of_stories(self):
        for beats, number in (([(0,)], 0), ([(), (0, 1, 2)], 1), ([(0,)] * 5, 4), ([tuple(range(9))], 0)):
            made = watch_of((3, 3), *beats)
            with plain.refused(self, BadTold, number):
                made.guess()
            self.assertEqual(made.told(), beats)
            with plain.refused(self, BadTold, number):
                made.guess()
            self.assertIs(made.back(), True)
            self.assertEqual(made.told(), beats[:-1])
        for beats in ([tuple(range(10))], [(0, 1), (2, 3), (0, 1), ()], [(0, 1, 2), (), (0, 1, 2), ()]):
            made = watch_of((5, 5), *beats)
            made.mark("here")
            for _ in range(2):
                with plain.refused(self, TooMany):
                    made.guess()
                self.assertEqual((made.told(), made.marks()), (beats, [("here", len(beats))]))
        made = watch_of((5, 5), tuple(range(12)), (0,))
        with plain.refused(self, BadTold, 1):
            made.guess()

    def test_it_goes_on_behind_a_refusal(self):
        made = watch_of((3, 3), (0,))
        with plain.refused(self, BadTold, 0):
            made.guess()
        made.beat((0, 2))
        self.assertEqual(made.guess(), watch_of((3, 3), (0,), (0, 2)).guess())

    def test_guessing_changes_nothing(self):
        made = watch_of((4, 5), (0, 7), (3,), (3, 19))
        made.mark("m")
        first = made.guess()
        for _ in range(3):
            self.assertEqual(made.guess(), first)
            self.assertEqual((made.told(), made.marks()), ([(0, 7), (3,), (3, 19)], [("m", 3)]))


class Marks(unittest.TestCase):
    def test_go_stands_there_again(self):
        made = Watch((3, 3))
        self.assertIsNone(made.mark("start"))
        made.beat((0,))
        made.beat((0, 2))
        self.assertIsNone(made.mark("two"))
        made.beat((1,))
        self.assertIsNone(made.go("start"))
        self.assertEqual(made.told(), [])
        self.assertEqual(made.guess(), ((0, 0), None))
        self.assertIs(made.back(), False)
        self.assertIsNone(made.go("two"))
        self.assertEqual(made.told(), [(0,), (0, 2)])
        self.assertEqual(made.guess(), watch_of((3, 3), (0,), (0, 2)).guess())
        self.assertEqual(made.beat((5,)), 3)
        self.assertEqual(made.marks(), [("start", 0), ("two", 2)])

    def test_a_point_stays_what_it_was(self):
        made = watch_of((3, 3), (0,), (1,))
        made.mark("a")
        made.back()
        made.back()
        made.beat((7,))
        made.beat((8,))
        made.beat((6,))
        self.assertEqual(made.marks(), [("a", 2)])
        made.go("a")
        self.assertEqual(made.told(), [(0,), (1,)])
        made.back()
        made.go("a")
        self.assertEqual(made.told(), [(0,), (1,)])
        made.beat((2,))
        made.go("a")
        self.assertEqual(made.told(), [(0,), (1,)])

    def test_marked_anew(self):
        made = watch_of((3, 3), (0,))
        made.mark("a")
        made.beat((1,))
        made.mark("b")
        made.mark("a")
        made.beat((2,))
        self.assertEqual(made.marks(), [("a", 2), ("b", 2)])
        made.go("a")
        self.assertEqual(made.told(), [(0,), (1,)])
        made.back()
        made.back()
        made.mark("b")
        made.go("a")
        made.go("b")
        self.assertEqual(made.told(), [])
        self.assertEqual(made.marks(), [("a", 2), ("b", 0)])

    def test_marks_outlast_going_and_back(self):
        made = Watch((3, 3))
        made.mark("a")
        made.beat((0,))
        made.mark("b")
        made.go("a")
        self.assertEqual(made.marks(), [("a", 0), ("b", 1)])
        made.go("b")
        made.back()
        self.assertEqual(made.marks(), [("a", 0), ("b", 1)])

    def test_names(self):
        made = watch_of((3, 3), (0,))
        for name in NAMES:
            self.assertIsNone(made.mark(name))
            self.assertIsNone(made.go(name))
        for letter in "abcdefghijklmnopqrstuvwxyz":
            made.mark(letter)
        told = sorted(set(NAMES) | set("abcdefghijklmnopqrstuvwxyz"))
        self.assertEqual(made.marks(), [(name, 1) for name in told])

    def test_marks_rise_however_they_were_marked(self):
        made = Watch((3, 3))
        for name in ("b", "ab", "z", "a", "ba", "aa"):
            made.mark(name)
            if name != "aa":
                made.beat(())
        told = [("a", 3), ("aa", 5), ("ab", 1), ("b", 0), ("ba", 4), ("z", 2)]
        self.assertEqual(made.marks(), told)
        self.assertEqual([mark.__class__ for mark in made.marks()], [tuple] * 6)

    def test_what_is_no_name(self):
        made = watch_of((3, 3), (0, 1))
        made.mark("a")
        begin = state_of(made)
        for name in NO_NAMES:
            with self.subTest(name):
                with plain.refused(self, BadName):
                    made.mark(name)
                self.assertEqual(state_of(made), begin)

    def test_going_to_what_is_not_marked(self):
        made = watch_of((3, 3), (0, 1))
        for name in NO_NAMES + NAMES:
            with plain.refused(self, NoPoint):
                made.go(name)
        made.mark("a")
        made.beat((0, 2))
        begin = state_of(made)
        for name in NO_NAMES + NAMES[1:] + ["b", "aa", "A"]:
            with self.subTest(name):
                with plain.refused(self, NoPoint):
                    made.go(name)
                self.assertEqual(state_of(made), begin)

    def test_marks_may_be_changed(self):
        made = watch_of((3, 3), (0, 1))
        made.mark("a")
        told = made.marks()
        self.assertIs(told.__class__, list)
        told.append(("b", 1))
        told[0] = ("a", 7)
        self.assertEqual(made.marks(), [("a", 1)])
        with plain.refused(self, NoPoint):
            made.go("b")
        self.assertEqual(Watch((3, 3)).marks(), [])


class SeveralWatches(unittest.TestCase):
    def test_two_watches_stand_apart(self):
        one, other = Watch((3, 3)), Watch((3, 3))
        one.beat((0, 2))
        one.mark("a")
        self.assertEqual(state_of(other), ([], [], ((0, 0), None)))
        with plain.refused(self, NoPoint):
            other.go("a")
        other.beat((0, 6))
        other.beat((0, 1))
        other.mark("a")
        one.go("a")
        self.assertEqual(one.told(), [(0, 2)])
        self.assertEqual(other.told(), [(0, 6), (0, 1)])
        one.back()
        self.assertEqual(other.marks(), [("a", 2)])
        self.assertEqual(one.marks(), [("a", 1)])
        self.assertEqual(other.told(), [(0, 6), (0, 1)])

    def test_watches_of_other_boards_and_counts(self):
        one, other = Watch((3, 3), flip=9), Watch((5, 5), lie=9)
        for made in (one, other):
            made.beat((0, 2))
        self.assertEqual(one.guess(), ((1, 0), 9))
        self.assertEqual(other.guess(), ((0, 0), 1))
        self.assertEqual(other.beat((24,)), 2)
        with plain.refused(self, BadLit, 0):
            one.beat((24,))


if __name__ == "__main__":
    unittest.main()
