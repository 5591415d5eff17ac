"""What the interface says of every call: what is handed in stays, nothing is kept, printed, read or imported."""

import ast
import contextlib
import inspect
import io
import pathlib
import unittest
from unittest import mock

import likelyorders
from likelyorders import chances
from likelyorders.chances import ahead, both, first, height, likely, nth, places, rows, split
from tests.trial import MOST, Untouchable

ORDERS = (
    (1, []),
    (3, [2, 0]),
    (4, [2, 1, 0, 3, 2, 1]),
    (6, []),
    (6, [4, 1] * 20),
    (0, [0, 1]),
    (MOST, [0, 1]),
    (3, [0, 1, 2]),
    (3, [1, 1]),
    (3, [0, 3]),
    (3, [0, 1, 1, 2, 2, 0]),
    (6, [0, 1] * 19 + [1, 0]),
)

# Each call with the numbers that stand between n and o, answered and refused.
CALLS = (
    (rows, ()),
    (first, ()),
    (nth, (0,)),
    (nth, (2,)),
    (nth, (MOST,)),
    (likely, (0, 1)),
    (likely, (2, 1)),
    (likely, (0, 0)),
    (likely, (0, MOST)),
    (both, (0, 1, 2)),
    (both, (2, 0, 1)),
    (both, (0, 1, 1)),
    (both, (0, 1, MOST)),
    (places, (0,)),
    (places, (2,)),
    (places, (MOST,)),
    (height, (0,)),
    (height, (2,)),
    (height, (MOST,)),
    (ahead, (0,)),
    (ahead, (1,)),
    (ahead, (MOST,)),
    (split, ()),
)

# Each call with its arguments in their turn.
TURNS = (
    (rows, "no"),
    (first, "no"),
    (nth, "nko"),
    (likely, "nxyo"),
    (both, "nxyzo"),
    (places, "nxo"),
    (height, "nxo"),
    (ahead, "nxo"),
    (split, "no"),
)

HANDED_IN = [(call, (n,) + numbers, o) for call, numbers in CALLS for n, o in ORDERS]

# Python's own names that the program may use; those that print or read are not among them.
ALLOWED_NAMES = set(
    "len range enumerate zip min max sum abs sorted reversed int str bool list tuple dict set frozenset isinstance "
    "ord repr any all divmod".split()
)


class HandedIn(unittest.TestCase):
    def test_stays_as_it_was(self):
        for call, numbers, o in HANDED_IN:
            given = list(o)
            call(*numbers, given)
            self.assertEqual(given, o, (call, numbers))

    def test_is_not_changed_for_a_while_either(self):
        for call, numbers, o in HANDED_IN:
            self.assertEqual(call(*numbers, Untouchable(o)), call(*numbers, list(o)), (call, numbers, o))

    def test_arguments_have_their_names(self):
        self.assertEqual(rows(n=3, o=[2, 0]), [3])
        self.assertEqual(first(n=3, o=[2, 0]), [3, 1, 2, 0])
        self.assertEqual(nth(n=3, k=2, o=[2, 0]), [3, 2, 1, 0])
        self.assertEqual(likely(n=3, x=2, y=1, o=[2, 0]), [0, 2, 3])
        self.assertEqual(both(n=3, x=2, y=1, z=0, o=[2, 0]), [2, 2, 3, 3])
        self.assertEqual(places(n=3, x=2, o=[2, 0]), [3, 2, 1, 0])
        self.assertEqual(height(n=3, x=2, o=[2, 0]), [0, 4, 3])
        self.assertEqual(ahead(n=3, x=0, o=[2, 0]), [1, 2])
        self.assertEqual(split(n=3, o=[2, 0]), [0, 0, 1, 1, 3])

    def test_arguments_stand_in_their_turn(self):
        for call, names in TURNS:
            self.assertEqual(list(inspect.signature(call).parameters), list(names))


class Answers(unittest.TestCase):
    def test_a_refusal_stands_alone_and_nothing_else_is_below_0(self):
        for call, numbers, o in HANDED_IN:
            answer = call(*numbers, o)
            self.assertGreaterEqual(len(answer), 1)
            if min(answer) < 0:
                self.assertIn(answer, ([-22], [-2], [-33]), (call, numbers, o))


class NothingIsKept(unittest.TestCase):
    def test_second_call_answers_as_the_first_did(self):
        for call, numbers, o in HANDED_IN:
            self.assertEqual(call(*numbers, o), call(*numbers, o), (call, numbers, o))

    def test_other_calls_between_change_nothing(self):
        before = [call(*numbers, list(o)) for call, numbers, o in HANDED_IN]
        after = [call(*numbers, list(o)) for call, numbers, o in reversed(HANDED_IN)]
        self.assertEqual(before, after[::-1])

    def test_the_same_list_with_other_numbers_is_answered_anew(self):
        o = [0, 1]
        self.assertEqual((rows(3, o), first(3, o)), ([3], [3, 0, 1, 2]))
        self.assertEqual((nth(3, 1, o), likely(3, 2, 0, o)), ([3, 0, 2, 1], [0, 1, 3]))
        self.assertEqual((both(3, 2, 0, 1, o), places(3, 2, o)), ([1, 1, 2, 3], [3, 1, 1, 1]))
        self.assertEqual((height(3, 0, o), ahead(3, 0, o)), ([0, 4, 3], [0]))
        self.assertEqual(split(3, o), [0, 0, 2, 2, 3])
        o.extend([2, 0])
        self.assertEqual((rows(3, o), first(3, o)), ([1], [3, 2, 0, 1]))
        self.assertEqual((nth(3, 1, o), likely(3, 2, 0, o)), ([-33], [0, 1, 1]))
        self.assertEqual((both(3, 2, 0, 1, o), places(3, 2, o)), ([1, 1, 1, 1], [3, 1, 0, 0]))
        self.assertEqual((height(3, 0, o), ahead(3, 0, o)), ([0, 2, 1], [1, 2]))
        self.assertEqual(split(3, o), [-33])

    def test_changing_an_answer_changes_no_later_one(self):
        for call, numbers, o in HANDED_IN:
            answer = call(*numbers, o)
            kept = list(answer)
            answer.clear()
            self.assertEqual(call(*numbers, o), kept, (call, numbers, o))


class NothingElseIsDone(unittest.TestCase):
    def sources(self):
        folder = pathlib.Path(likelyorders.__file__).parent
        return [ast.parse(path.read_text(encoding="utf-8")) for path in sorted(folder.rglob("*.py"))]

    def test_nothing_is_printed(self):
        out, err = io.StringIO(), io.StringIO()
        with contextlib.redirect_stdout(out), contextlib.redirect_stderr(err):
            for call, numbers, o in HANDED_IN:
                call(*numbers, o)
        self.assertEqual((out.getvalue(), err.getvalue()), ("", ""))

    def test_nothing_is_read_or_imported_by_a_call(self):
        refuse = mock.Mock(side_effect=AssertionError("something was read or imported"))
        with contextlib.ExitStack() as stack:
            for name in ("builtins.open", "builtins.input", "builtins.__import__"):
                stack.enter_context(mock.patch(name, refuse))
            # None has nothing to read from, so any reading fails.
            stack.enter_context(mock.patch("sys.stdin", None))
            for call, numbers, o in HANDED_IN:
                call(*numbers, o)
        refuse.assert_not_called()

    def test_nothing_is_imported(self):
        for tree in self.sources():
            for node in ast.walk(tree):
                self.assertNotIsInstance(node, (ast.Import, ast.ImportFrom))

    def test_no_name_that_prints_or_reads_is_used(self):
        for tree in self.sources():
            names = [node for node in ast.walk(tree) if isinstance(node, ast.Name)]
            bound = {node.id for node in names if isinstance(node.ctx, ast.Store)}
            bound |= {node.arg for node in ast.walk(tree) if isinstance(node, ast.arg)}
            bound |= {node.name for node in ast.walk(tree) if isinstance(node, ast.FunctionDef)}
            used = {node.id for node in names}
            self.assertEqual(used - bound - ALLOWED_NAMES, set())

    def test_the_calls_are_functions_of_chances(self):
        for call, names in TURNS:
            self.assertIs(getattr(chances, call.__name__), call)
            self.assertEqual(call.__module__, "likelyorders.chances")


if __name__ == "__main__":
    unittest.main()
