"""The interface: the calls' names and arguments, the order of refusals, and its last paragraph."""

import contextlib
import importlib
import inspect
import io
import os
import pkgutil
import random
import subprocess
import sys
import unittest

import collation
from collation import desk
from collation.desk import cost, judge, moves, steps, through
from tests.reckoning import GAP, GAP_CELL, LOST, numbers
from tests.samples import A, B, C, D, NO_ROWS

ROOT = os.path.dirname(os.path.dirname(os.path.abspath(__file__)))
GREATEST = 2 ** 64 - 1
ARGUMENTS = {
    "cost": ["x", "y"],
    "steps": ["x", "y"],
    "judge": ["x", "y", "s"],
    "through": ["i", "j", "x", "y"],
    "moves": ["x", "y", "s"],
}
X, Y = numbers(A, B, GAP_CELL, C), numbers(C, D, A, B, (LOST,))
RIGHT_STEPS = [3, 3, 5, 0, 4, 4, 4, 4]
REFUSALS = {cost: (-1, -2), steps: (-1, -2), judge: (-1, -2, -6), through: (-1, -2, -4), moves: (-1, -2, -6)}
# Each call with its other arguments right, as far as they can be, and wrong.
OTHERS = (
    (cost, {}),
    (steps, {}),
    (judge, {"s": RIGHT_STEPS}),
    (judge, {"s": [7]}),
    (judge, {"s": [GREATEST]}),
    (through, {"i": 0, "j": 0}),
    (through, {"i": 9, "j": 0}),
    (through, {"i": 0, "j": GREATEST}),
    (moves, {"s": RIGHT_STEPS}),
    (moves, {"s": [7]}),
    (moves, {"s": [GREATEST]}),
)


def calls():
    """Calls of every sort: right ones, refused ones, with lists of their own."""
    given = []
    for x in (X, Y, [], [0], [GAP], [1], [513], [0] * 4097):
        for y in (Y, X, [], [1, LOST], [GAP, GAP], [3, 1, 2]):
            for call, others in OTHERS:
                handed = {name: list(value) if isinstance(value, list) else value for name, value in others.items()}
                given.append((call, dict(x=list(x), y=list(y), **handed)))
    return given


class Watched(list):
    """A list that tells when it is changed, be it for a while."""

    def changed(self, *args, **kwargs):
        raise AssertionError("a list that was handed in was changed")

    append = extend = insert = remove = pop = clear = sort = reverse = changed
    __setitem__ = __delitem__ = __iadd__ = __imul__ = changed


class NamesAndArguments(unittest.TestCase):
    def test_as_they_stand(self):
        for name, arguments in ARGUMENTS.items():
            parameters = inspect.signature(getattr(desk, name)).parameters
            self.assertEqual(list(parameters), arguments)
            for each in parameters.values():
                self.assertIs(each.default, inspect.Parameter.empty)
                self.assertIs(each.kind, inspect.Parameter.POSITIONAL_OR_KEYWORD)

    def test_one_behind_another(self):
        self.assertEqual(cost(X, []), [9])
        self.assertEqual(steps(X, []), [3, 3, 5, 3])
        self.assertEqual(judge(X, [], [3, 3, 5, 3]), [9])
        self.assertEqual(through(2, 0, numbers(A, B, C), numbers(A)), [10])
        self.assertEqual(through(y=numbers(A), x=numbers(A, B, C), j=0, i=2), [10])
        self.assertEqual(through(0, 2, numbers(A, B, C), numbers(A)), [-4])
        self.assertEqual(moves(X, Y, RIGHT_STEPS), [0, 2, 2])


class Answers(unittest.TestCase):
    def test_lists_of_whole_numbers(self):
        for call, given in calls():
            answer = call(**given)
            self.assertIs(type(answer), list)
            # Never True or False.
            self.assertTrue(all(type(number) is int for number in answer), (call, given, answer))

    def test_a_refusal_is_alone(self):
        for call, given in calls():
            answer = call(**given)
            if any(number < 0 for number in answer):
                self.assertEqual(len(answer), 1, (call, given, answer))
                self.assertIn(answer[0], REFUSALS[call], (given, answer))

    def test_how_many_numbers(self):
        for call, given in calls():
            answer = call(**given)
            if call in (cost, judge, through):
                self.assertEqual(len(answer), 1)
            if call == moves and answer[:1] not in ([-1], [-2], [-6]):
                self.assertEqual(len(answer) % 3, 0)

    def test_nothing_is_an_empty_list(self):
        self.assertEqual(steps([], []), [])
        self.assertEqual(moves([], [], []), [])
        self.assertEqual(moves([0], [0], [0]), [])


class OrderOfRefusals(unittest.TestCase):
    MANY = ([0] * 4097, [GAP] * 4097)

    def check(self, expected, x, y):
        for call, others in OTHERS:
            self.assertEqual(call(x=x, y=y, **others), [expected], (call, x[:4], y[:4], others))

    def test_x_ahead_of_y_ahead_of_the_rest(self):
        for wrong in NO_ROWS:
            for right in ([], [0], X):
                self.check(-1, wrong, right)
                self.check(-1, right, wrong)
            for many in self.MANY:
                self.check(-1, wrong, many)
                self.check(-2, many, wrong)
        for many in self.MANY:
            self.check(-2, many, [])
            self.check(-2, [], many)
            self.check(-2, many, many)

    def test_numbers_that_are_no_rows_ahead_of_too_many_cells(self):
        for many in self.MANY:
            self.check(-1, many + [513], [])
            self.check(-1, [], many + [1])
        self.check(-1, [0] * 1048577, [])
        self.check(-1, [], [GAP] * 1048577)

    def test_the_rest_last(self):
        for s in ([7], [], RIGHT_STEPS + [0], RIGHT_STEPS[1:], [GREATEST]):
            self.assertEqual(judge(X, Y, s), [-6])
            self.assertEqual(moves(X, Y, s), [-6])
        for i, j in ((5, 0), (0, 6), (5, 6), (GREATEST, 0), (0, GREATEST)):
            self.assertEqual(through(i, j, X, Y), [-4])


class WhatIsHandedIn(unittest.TestCase):
    def test_is_not_changed_not_for_a_while_either(self):
        for call, given in calls():
            watched = {name: Watched(each) if isinstance(each, list) else each for name, each in given.items()}
            before = {name: list(each) if isinstance(each, list) else each for name, each in given.items()}
            answer = call(**watched)
            self.assertEqual(watched, before)
            self.assertEqual(answer, call(**given))
            self.assertEqual(given, before)

    def test_is_not_given_back(self):
        for call, given in calls():
            answer = call(**given)
            self.assertTrue(all(answer is not each for each in given.values()))
        told = []
        self.assertIsNot(steps(told, told), told)
        self.assertIsNot(moves(told, told, told), told)


class NothingIsKept(unittest.TestCase):
    def test_in_whatever_order(self):
        given = calls()
        first = [call(**each) for call, each in given]
        order = list(range(len(given))) * 2
        random.Random(23).shuffle(order)
        for number in order:
            call, each = given[number]
            answer = call(**each)
            self.assertEqual(answer, first[number])
            # What was answered is the caller's to change.
            answer.append(99)

    def test_names_of_the_files_stay_as_they_are(self):
        modules = [importlib.import_module(f"collation.{each.name}") for each in pkgutil.iter_modules(collation.__path__)]
        self.assertGreaterEqual(len(modules), 5)

        def kept():
            return [{name: repr(value) for name, value in vars(each).items() if name[:2] != "__"} for each in modules]

        before = kept()
        for call, given in calls():
            call(**given)
        self.assertEqual(kept(), before)


class NothingElseIsDone(unittest.TestCase):
    def test_prints_and_imports_nothing(self):
        given = calls()
        known = set(sys.modules)
        out = io.StringIO()
        with contextlib.redirect_stdout(out), contextlib.redirect_stderr(out):
            for call, each in given:
                call(**each)
        self.assertEqual(out.getvalue(), "")
        self.assertEqual(set(sys.modules), known)

    def test_by_itself_it_brings_its_own_files_alone(self):
        asked = (
            "import sys; before = set(sys.modules); import collation.desk;"
            "print(sorted(name for name in set(sys.modules) - before if name.split('.')[0] != 'collation'))"
        )
        found = subprocess.run([sys.executable, "-c", asked], cwd=ROOT, capture_output=True, text=True, check=True)
        self.assertEqual(found.stdout, "[]\n")
        self.assertEqual(found.stderr, "")


class LoopsNotCallsWithinCalls(unittest.TestCase):
    def setUp(self):
        self.limit = sys.getrecursionlimit()

    def tearDown(self):
        sys.setrecursionlimit(self.limit)

    def test_long_rows_with_few_calls_within_one_another(self):
        words, gaps = [0] * 740, [GAP] * 740
        mixed = [GAP, 0, 0, GAP] * 185
        sys.setrecursionlimit(len(inspect.stack()) + 40)
        for x in (words, gaps, mixed):
            for y in (words, gaps, mixed):
                told = steps(x, y)
                self.assertEqual(judge(x, y, told), cost(x, y))
                self.assertEqual(through(740, 740, x, y), cost(x, y))
        self.assertEqual(moves([0] * 149, [0] * 149, [3] * 149 + [4] * 149), [0, 0, 149])
        self.assertEqual(len(moves([0] * 100, [0] * 100, [3, 3, 4, 4] * 50)), 150)


if __name__ == "__main__":
    unittest.main()
