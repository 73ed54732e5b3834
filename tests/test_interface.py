"""What the interface promises of every call: its form, and that nothing is changed, kept or printed."""
import ast
import contextlib
import inspect
import io
import pathlib
import unittest

import bobbinlace
from bobbinlace import desk

PACKAGE = pathlib.Path(bobbinlace.__file__).parent

INPUTS = (
    (2, [64, 0, 1, 64]),
    (1, []),
    (32, [31, 94] * 256),
    (32, [0] * 600),
    (0, [0]),
    (3, [0, 3, 255]),
    (1, [0, 64]),
    (4294967295, [255]),
)


class Unchanging(list):
    """A list that tells at once if it's changed, if only for a while."""

    def refuse(self, *args, **kwargs):
        raise AssertionError("what was handed in was changed")

    __setitem__ = __delitem__ = __iadd__ = __imul__ = refuse
    append = clear = extend = insert = pop = remove = reverse = sort = refuse


def calls():
    return (desk.right, desk.ends)


class EveryCall(unittest.TestCase):
    def test_arguments(self):
        for call in calls():
            self.assertEqual(list(inspect.signature(call).parameters), ["n", "a"])
            self.assertEqual(call(n=2, a=[64]), call(2, [64]))

    def test_answers_are_lists_of_whole_numbers(self):
        for call in calls():
            for n, a in INPUTS:
                answer = call(n, a)
                self.assertIs(type(answer), list)
                for number in answer:
                    self.assertIs(type(number), int)

    def test_what_is_handed_in_stays(self):
        for call in calls():
            for n, a in INPUTS:
                before = list(a)
                call(n, a)
                self.assertEqual(a, before)
                call(n, Unchanging(a))

    def test_a_second_call_answers_as_the_first(self):
        for call in calls():
            first = [call(n, list(a)) for n, a in INPUTS]
            second = [call(n, list(a)) for n, a in reversed(INPUTS)]
            self.assertEqual(first, second[::-1])

    def test_an_answer_is_the_callers_own(self):
        for call in calls():
            for n, a in INPUTS:
                answer = call(n, a)
                expected = list(answer)
                answer.append(7)
                answer[0] = 9
                self.assertEqual(call(n, a), expected)

    def test_nothing_is_printed(self):
        out = io.StringIO()
        with contextlib.redirect_stdout(out), contextlib.redirect_stderr(out):
            for call in calls():
                for n, a in INPUTS:
                    call(n, a)
        self.assertEqual(out.getvalue(), "")


class PackageFiles(unittest.TestCase):
    def test_nothing_from_outside_is_imported(self):
        for path in sorted(PACKAGE.glob("*.py")):
            for node in ast.walk(ast.parse(path.read_text(encoding="utf-8"))):
                self.assertNotIsInstance(node, ast.Import, path.name)
                if isinstance(node, ast.ImportFrom):
                    self.assertEqual(node.module.split(".")[0], "bobbinlace", path.name)

    def test_sizes_and_signs(self):
        for path in sorted(PACKAGE.glob("*.py")):
            text = path.read_text(encoding="utf-8")
            self.assertTrue(all(sign == "\n" or " " <= sign <= "~" for sign in text), path.name)
            self.assertLessEqual(len(text.splitlines()), 400, path.name)
            self.assertLessEqual(max(len(row) for row in text.splitlines()), 120, path.name)
            for node in ast.walk(ast.parse(text)):
                if isinstance(node, ast.FunctionDef):
                    self.assertLessEqual(node.end_lineno - node.lineno + 1, 40, node.name)


if __name__ == "__main__":
    unittest.main()
