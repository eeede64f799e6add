"""Promise 1 and the interface, over the whole program."""

import ast
import importlib
import inspect
import pathlib
import unittest

import seamboard
from seamboard import errors
from seamboard.beats import judged, stories
from seamboard.boards import after, checks, seams
from seamboard.faces import led, turned
from seamboard.least import least, mends, unseen
from seamboard.notes import read, written
from seamboard.watch import Watch
from tests import plain

FOLDER = pathlib.Path(seamboard.__file__).parent

LISTED = {
    "boards": ["checks", "seams", "after"],
    "faces": ["turned", "led"],
    "least": ["least", "unseen", "mends"],
    "beats": ["stories", "judged"],
    "watch": ["Watch"],
    "notes": ["written", "read"],
    "errors": ["SeamError", "BadBoard", "BadFlips", "BadLit", "BadFaces", "BadCosts", "BadTold", "BadStory", "BadCount",
               "Odd", "TooMany", "BadName", "NoPoint", "BadText"],
}

# What the program takes from outside: nothing that has to do with a clock, chance, files or a network.
TAKEN = {"heapq"}

BOARD = (3, 4)
TOLD = ((0,), (0, 5), (1, 5))

ANSWERS = {
    "checks": lambda: checks(BOARD, (0, 6, 17)),
    "seams": lambda: seams(BOARD, (0, 6, 17)),
    "after": lambda: after(BOARD, (0, 6), (6, 17)),
    "turned": lambda: turned(BOARD, (0, 6), (3, 4)),
    "led": lambda: led(BOARD, (1, 6), (7, 14)),
    "least": lambda: least(BOARD, (0, 3, 7, 10), costs=plain.costs_of(BOARD, 5)),
    "unseen": lambda: unseen(BOARD, costs=plain.costs_of(BOARD, 5)),
    "mends": lambda: mends(BOARD, (0, 2), costs=plain.costs_of(BOARD, 5)),
    "stories": lambda: stories(BOARD, TOLD, flip=2, lie=3),
    "judged": lambda: judged(BOARD, TOLD[1:], [((0, 3), (1,)), ((0,), ())], lie=3),
    "written": lambda: written(BOARD, (0, 6, 17)),
    "read": lambda: read(written(BOARD, (0, 6, 17))),
    "told": lambda: watched().told(),
    "marks": lambda: watched().marks(),
    "guess": lambda: watched().guess(),
}


def watched():
    made = Watch(BOARD)
    for lit in TOLD:
        made.mark("abc"[made.beat(lit) - 1])
    return made


def sources():
    return {path.stem: ast.parse(path.read_text(encoding="ascii")) for path in sorted(FOLDER.glob("*.py"))}


class Files(unittest.TestCase):
    def test_each_name_is_defined_in_its_file(self):
        trees = sources()
        for file, names in LISTED.items():
            module = importlib.import_module("seamboard." + file)
            defined = [node.name for node in trees[file].body if isinstance(node, (ast.FunctionDef, ast.ClassDef))]
            for name in names:
                with self.subTest(file, name=name):
                    self.assertEqual(defined.count(name), 1)
                    self.assertEqual(getattr(module, name).__module__, module.__name__)

    def test_each_method_is_defined_in_its_class(self):
        for name in ("beat", "back", "told", "marks", "guess", "mark", "go"):
            self.assertTrue(inspect.isfunction(vars(Watch).get(name)), name)

    def test_nothing_but_its_own_files_and_what_is_told_is_imported(self):
        for file, tree in sources().items():
            for node in ast.walk(tree):
                self.assertNotIsInstance(node, ast.Import)
                if isinstance(node, ast.ImportFrom):
                    self.assertIn(node.module.split(".")[0], TAKEN | {"seamboard"}, file)

    def test_nothing_is_opened_or_asked_for(self):
        for tree in sources().values():
            used = {node.id for node in ast.walk(tree) if isinstance(node, ast.Name)}
            self.assertEqual(used & {"open", "input", "print", "exec", "eval"}, set())

    def test_each_refusal_is_a_seam_error(self):
        for file, tree in sources().items():
            for node in ast.walk(tree):
                if isinstance(node, ast.Raise):
                    self.assertIn(node.exc.func.id, LISTED["errors"][1:], file)
                    self.assertTrue(issubclass(getattr(errors, node.exc.func.id), errors.SeamError))


class EveryAnswer(unittest.TestCase):
    def test_asked_again_the_same_is_told(self):
        first = {name: answer() for name, answer in ANSWERS.items()}
        for _ in range(2):
            for name, answer in ANSWERS.items():
                with self.subTest(name):
                    self.assertEqual(answer(), first[name])
                    self.assertEqual(repr(answer()), repr(first[name]))

    def test_lists_that_were_told_may_be_changed(self):
        for name, answer in ANSWERS.items():
            told = answer()
            if isinstance(told, list):
                with self.subTest(name):
                    kept = repr(told)
                    told.reverse()
                    told.append(None)
                    self.assertEqual(repr(answer()), kept)

    def test_a_watch_tells_new_lists_each_time(self):
        made = watched()
        for ask in (made.told, made.marks):
            kept = ask()
            ask().clear()
            self.assertIsNot(ask(), ask())
            self.assertEqual(ask(), kept)

    def test_each_of_several_stories_is_a_list_of_its_own(self):
        told = [story for _, story in stories(BOARD, TOLD) + stories(BOARD, TOLD)]
        for at, story in enumerate(told):
            for other in told[:at]:
                self.assertIsNot(story, other)

    def test_numbers_are_whole(self):
        def numbers(thing):
            if isinstance(thing, (list, tuple)):
                return [number for part in thing for number in numbers(part)]
            return [] if isinstance(thing, str) or thing is None else [thing]

        for name, answer in ANSWERS.items():
            if name != "mends":
                self.assertEqual({number.__class__ for number in numbers(answer())} - {int}, set(), name)
        self.assertIn(repr(ANSWERS["mends"]()), ("True", "False", "None"))

    def test_true_and_false_are_no_numbers(self):
        for truth in (True, False):
            for error, value, call in (
                (errors.BadBoard, None, lambda: least((3, truth), ())),
                (errors.BadLit, 0, lambda: least(BOARD, (truth, 2))),
                (errors.BadFlips, 0, lambda: mends(BOARD, (truth,))),
                (errors.BadFlips, 0, lambda: written(BOARD, (truth, 2))),
                (errors.BadCosts, 3, lambda: unseen(BOARD, costs=(1, 1, 1, truth) + (1,) * 20)),
                (errors.BadTold, 1, lambda: stories(BOARD, ((), (truth, 2)))),
                (errors.BadStory, 0, lambda: judged(BOARD, ((),), [((truth,), ())])),
                (errors.BadStory, 1, lambda: judged(BOARD, ((), ()), [((), ()), ((), (truth,))])),
                (errors.BadCount, None, lambda: stories(BOARD, ((),), flip=truth)),
                (errors.BadCount, None, lambda: Watch(BOARD, lie=truth)),
                (errors.BadLit, 0, lambda: Watch(BOARD).beat((truth,))),
            ):
                with plain.refused(self, error, value):
                    call()

    def test_what_is_handed_in_is_not_changed_by_a_refusal(self):
        things = [[0, 1], [(0, 1), ()], [[3, 4]], [((0,), ()), None]]
        kept = repr(things)
        made = watched()
        begin = (made.told(), made.marks(), made.guess())
        for thing in things:
            for call in (lambda: least(thing, ()), lambda: least(BOARD, thing), lambda: unseen(BOARD, costs=thing),
                         lambda: mends(BOARD, thing), lambda: stories(BOARD, thing), lambda: stories(BOARD, (thing,)),
                         lambda: judged(BOARD, ((), ()), thing), lambda: Watch(thing), lambda: Watch(BOARD, flip=thing),
                         lambda: made.beat(thing), lambda: made.mark(thing), lambda: made.go(thing),
                         lambda: written(BOARD, thing), lambda: read(thing)):
                with self.assertRaises(errors.SeamError):
                    call()
                self.assertEqual(repr(things), kept)
                self.assertEqual((made.told(), made.marks(), made.guess()), begin)


if __name__ == "__main__":
    unittest.main()
