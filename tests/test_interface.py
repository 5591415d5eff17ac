"""What the interface says of every call: what is handed in stays, nothing is kept, printed, read or imported."""

import ast
import contextlib
import io
import pathlib
import unittest

import likelyorders
from likelyorders import chances
from likelyorders.chances import first, rows
from tests.trial import MOST, Untouchable

HANDED_IN = (
    (1, []),
    (3, [2, 0]),
    (4, [2, 1, 0, 3, 2, 1]),
    (6, []),
    (6, [4, 1] * 20),
    (0, [0, 1]),
    (MOST, [0, 1]),
    (3, [0, 1, 2]),
    (3, [1, 1]),
    (3, [0, 3]),
    (3, [0, 1, 1, 2, 2, 0]),
    (6, [0, 1] * 19 + [1, 0]),
)

# Python's own names that the program may use; those that print or read are not among them.
ALLOWED_NAMES = set(
    "len range enumerate zip min max sum abs sorted reversed int str bool list tuple dict set frozenset isinstance "
    "ord repr any all divmod".split()
)


class HandedIn(unittest.TestCase):
    def test_stays_as_it_was(self):
        for n, o in HANDED_IN:
            for call in (rows, first):
                given = list(o)
                call(n, given)
                self.assertEqual(given, o)

    def test_is_not_changed_for_a_while_either(self):
        for n, o in HANDED_IN:
            for call in (rows, first):
                self.assertEqual(call(n, Untouchable(o)), call(n, list(o)))

    def test_arguments_have_their_names(self):
        self.assertEqual(rows(n=3, o=[2, 0]), [3])
        self.assertEqual(first(n=3, o=[2, 0]), [3, 1, 2, 0])


class NothingIsKept(unittest.TestCase):
    def test_second_call_answers_as_the_first_did(self):
        for call in (rows, first):
            for n, o in HANDED_IN:
                self.assertEqual(call(n, o), call(n, o))

    def test_other_calls_between_change_nothing(self):
        for call in (rows, first):
            before = [call(n, list(o)) for n, o in HANDED_IN]
            after = [call(n, list(o)) for n, o in reversed(HANDED_IN)]
            self.assertEqual(before, after[::-1])

    def test_the_same_list_with_other_numbers_is_answered_anew(self):
        o = [0, 1]
        self.assertEqual((rows(3, o), first(3, o)), ([3], [3, 0, 1, 2]))
        o.extend([2, 0])
        self.assertEqual((rows(3, o), first(3, o)), ([1], [3, 2, 0, 1]))

    def test_changing_an_answer_changes_no_later_one(self):
        for call in (rows, first):
            for n, o in HANDED_IN:
                answer = call(n, o)
                kept = list(answer)
                answer.clear()
                self.assertEqual(call(n, o), kept)


class NothingElseIsDone(unittest.TestCase):
    def sources(self):
        folder = pathlib.Path(likelyorders.__file__).parent
        return [ast.parse(path.read_text(encoding="utf-8")) for path in sorted(folder.rglob("*.py"))]

    def test_nothing_is_printed(self):
        out, err = io.StringIO(), io.StringIO()
        with contextlib.redirect_stdout(out), contextlib.redirect_stderr(err):
            for n, o in HANDED_IN:
                rows(n, o)
                first(n, o)
        self.assertEqual((out.getvalue(), err.getvalue()), ("", ""))

    def test_nothing_is_imported(self):
        for tree in self.sources():
            for node in ast.walk(tree):
                self.assertNotIsInstance(node, (ast.Import, ast.ImportFrom))

    def test_no_name_that_prints_or_reads_is_used(self):
        for tree in self.sources():
            names = [node for node in ast.walk(tree) if isinstance(node, ast.Name)]
            bound = {node.id for node in names if isinstance(node.ctx, ast.Store)}
            bound |= {node.arg for node in ast.walk(tree) if isinstance(node, ast.arg)}
            bound |= {node.name for node in ast.walk(tree) if isinstance(node, ast.FunctionDef)}
            used = {node.id for node in names}
            self.assertEqual(used - bound - ALLOWED_NAMES, set())

    def test_the_calls_are_functions_of_chances(self):
        self.assertEqual((chances.rows.__module__, chances.first.__module__), ("likelyorders.chances",) * 2)


if __name__ == "__main__":
    unittest.main()
