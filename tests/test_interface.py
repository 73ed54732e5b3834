"""What the interface promises of every call: its form, and that nothing is changed, kept or printed."""
import ast
import contextlib
import inspect
import io
import pathlib
import sys
import unittest

import bobbinlace
from bobbinlace import desk

PACKAGE = pathlib.Path(bobbinlace.__file__).parent

CALLS = (
    (desk.right, ["n", "a"]),
    (desk.ends, ["n", "a"]),
    (desk.thread, ["n", "t", "a"]),
    (desk.form, ["n", "a"]),
    (desk.same, ["n", "a", "b"]),
    (desk.common, ["n", "a", "b"]),
    (desk.left, ["n", "a", "b"]),
    (desk.joined, ["n", "a", "b"]),
    (desk.undone, ["n", "a", "b"]),
)

INPUTS = (
    {"n": 2, "t": 3, "a": [64, 0, 1, 64], "b": [64, 1, 0, 64]},
    {"n": 2, "t": 0, "a": [64, 1], "b": [64, 1, 0, 64]},
    {"n": 1, "t": 0, "a": [], "b": []},
    {"n": 3, "t": 1, "a": [65, 2, 0, 64, 1], "b": [65, 0, 0, 2]},
    {"n": 4, "t": 7, "a": [66, 0, 2], "b": [1, 0, 66]},
    {"n": 32, "t": 63, "a": [31, 94] * 256, "b": [0, 64] * 256},
    {"n": 32, "t": 64, "a": [0] * 512, "b": [0] * 511},
    {"n": 32, "t": 0, "a": [0] * 600, "b": [0]},
    {"n": 32, "t": 0, "a": [0], "b": [255] * 513},
    {"n": 0, "t": 0, "a": [0], "b": [0]},
    {"n": 3, "t": 2, "a": [0, 3, 255], "b": []},
    {"n": 3, "t": 2, "a": [0, 65], "b": [0, 65, 66]},
    {"n": 1, "t": 1, "a": [0, 64], "b": [64]},
    {"n": 4294967295, "t": 4294967295, "a": [255], "b": [255]},
)


class Unchanging(list):
    """A list that tells at once if it's changed, if only for a while."""

    def refuse(self, *args, **kwargs):
        raise AssertionError("what was handed in was changed")

    __setitem__ = __delitem__ = __iadd__ = __imul__ = refuse
    append = clear = extend = insert = pop = remove = reverse = sort = refuse


def arguments(names, given, made=list):
    """What is handed in for the names, in their order, each list made anew."""
    return [made(given[name]) if isinstance(given[name], list) else given[name] for name in names]


def each_call():
    """Every call with every input."""
    for call, names in CALLS:
        for given in INPUTS:
            yield call, names, given


class EveryCall(unittest.TestCase):
    def test_arguments(self):
        for call, names in CALLS:
            parameters = inspect.signature(call).parameters
            self.assertEqual(list(parameters), names)
            for parameter in parameters.values():
                self.assertIs(parameter.default, inspect.Parameter.empty)
            named = {name: INPUTS[0][name] for name in names}
            self.assertEqual(call(**named), call(*arguments(names, INPUTS[0])))

    def test_answers_are_lists_of_whole_numbers(self):
        for call, names, given in each_call():
            answer = call(*arguments(names, given))
            self.assertIs(type(answer), list)
            for number in answer:
                self.assertIs(type(number), int)

    def test_a_refusal_stands_alone(self):
        for call, names, given in each_call():
            answer = call(*arguments(names, given))
            if answer[0] < 0:
                self.assertEqual(len(answer), 2 if call is desk.right and answer[0] == -5 else 1)
            else:
                self.assertEqual(answer[0], 0)

    def test_what_is_handed_in_stays(self):
        for call, names, given in each_call():
            handed_in = arguments(names, given)
            call(*handed_in)
            self.assertEqual(handed_in, arguments(names, given))
            call(*arguments(names, given, Unchanging))

    def test_one_list_handed_in_twice(self):
        for call, names, given in each_call():
            if "b" in names:
                a = Unchanging(given["a"])
                answer = call(given["n"], a, a)
                self.assertEqual(a, given["a"])
                self.assertEqual(answer, call(given["n"], list(a), list(a)))

    def test_a_second_call_answers_as_the_first(self):
        for call, names in CALLS:
            first = [call(*arguments(names, given)) for given in INPUTS]
            second = [call(*arguments(names, given)) for given in reversed(INPUTS)]
            self.assertEqual(first, second[::-1])

    def test_an_answer_is_the_callers_own(self):
        for call, names, given in each_call():
            handed_in = arguments(names, given)
            answer = call(*handed_in)
            expected = list(answer)
            answer.append(7)
            answer[0] = 9
            self.assertEqual(handed_in, arguments(names, given))
            self.assertEqual(call(*handed_in), expected)

    def test_nothing_is_printed(self):
        out = io.StringIO()
        with contextlib.redirect_stdout(out), contextlib.redirect_stderr(out):
            for call, names, given in each_call():
                call(*arguments(names, given))
        self.assertEqual(out.getvalue(), "")

    def test_long_inputs_are_gone_through_by_loops(self):
        before = sys.getrecursionlimit()
        sys.setrecursionlimit(len(inspect.stack()) + 50)
        try:
            for call, names, given in each_call():
                call(*arguments(names, given))
        finally:
            sys.setrecursionlimit(before)


class PackageFiles(unittest.TestCase):
    def test_nothing_from_outside_is_imported(self):
        for path in sorted(PACKAGE.glob("*.py")):
            for node in ast.walk(ast.parse(path.read_text(encoding="utf-8"))):
                self.assertNotIsInstance(node, ast.Import, path.name)
                if isinstance(node, ast.ImportFrom):
                    self.assertEqual(node.module.split(".")[0], "bobbinlace", path.name)

    def test_sizes_and_signs(self):
        for path in sorted(PACKAGE.glob("*.py")):
            text = path.read_text(encoding="utf-8")
            self.assertTrue(all(sign == "\n" or " " <= sign <= "~" for sign in text), path.name)
            self.assertLessEqual(len(text.splitlines()), 400, path.name)
            self.assertLessEqual(max(len(row) for row in text.splitlines()), 120, path.name)
            for node in ast.walk(ast.parse(text)):
                if isinstance(node, ast.FunctionDef):
                    self.assertLessEqual(node.end_lineno - node.lineno + 1, 40, node.name)


if __name__ == "__main__":
    unittest.main()
