"""What the document promises over the whole program."""

import ast
import copy
import pathlib
import subprocess
import sys
import types
import unittest

from helper import KINDS, message_of, seen_beside_the_answer
from latticeseal import desk

ROOT = pathlib.Path(__file__).resolve().parent.parent


def values_at_the_top():
    return {name: copy.deepcopy(value) for name, value in vars(desk).items()
            if not name.startswith("__") and not isinstance(value, types.FunctionType)}


def calls_of_all():
    """Calls of every function, refused ones among them: the function's name and what is handed in."""
    calls = [("km_sum", which, 200, message_of(which)) for which in (0, 1, 2, 3, 4)]
    for kind in KINDS:
        keys = desk.km_keys(kind, message_of(32, kind), message_of(32, 9))
        openkey, secret = keys[1:384 * kind + 33], keys[384 * kind + 33:]
        seal = desk.km_seal(kind, openkey, message_of(32, 77))[1:-32]
        calls += [("km_keys", kind, message_of(32, kind), message_of(32, 9)),
                  ("km_seal", kind, openkey, message_of(32, 77)), ("km_seal", kind, [255] * len(openkey), [0] * 32),
                  ("km_open", kind, secret, seal), ("km_open", kind, secret, [255] * len(seal)),
                  ("km_open", kind, secret[:-33] + [secret[-33] ^ 1] + secret[-32:], seal)]
    return calls + [("km_keys", 5, [0] * 32, [0] * 32), ("km_seal", 1, [], [0] * 32), ("km_open", 0, [], [])]


def answer_to(call):
    return getattr(desk, call[0])(*call[1:])


class Whole(unittest.TestCase):
    def test_whatever_was_called_before(self):
        calls = calls_of_all()
        wanted = [answer_to(call) for call in calls]
        self.assertEqual([answer_to(call) for call in reversed(calls)], wanted[::-1])
        for call, answer in zip(calls, wanted):
            self.assertEqual(answer_to(call), answer)
            self.assertEqual(answer_to(call), answer)

    def test_as_if_for_the_first_time(self):
        # Each call in a Python of its own, in which nothing went before.
        calls = calls_of_all()
        for call in calls[1:4] + calls[5:8] + calls[-8:-2]:
            code = f"from latticeseal.desk import {call[0]}\nprint({call[0]}(*{list(call[1:])!r}))"
            run = subprocess.run([sys.executable, "-B", "-c", code], cwd=ROOT, capture_output=True, text=True)
            self.assertEqual((run.stdout, run.stderr), (f"{answer_to(call)}\n", ""))

    def test_the_top_of_the_module_stays(self):
        before = values_at_the_top()
        for call in calls_of_all():
            answer_to(call)
        self.assertEqual(values_at_the_top(), before)

    def test_nothing_is_printed_read_or_imported(self):
        for call in calls_of_all():
            self.assertEqual(seen_beside_the_answer(answer_to, (call,)), ("", [], set()))

    def test_the_files_import_nothing(self):
        for path in (ROOT / "latticeseal").glob("*.py"):
            for node in ast.walk(ast.parse(path.read_text(encoding="ascii"))):
                self.assertNotIsInstance(node, (ast.Import, ast.ImportFrom), path.name)

    def test_nothing_is_printed_when_it_is_loaded(self):
        code = "import latticeseal, latticeseal.desk"
        run = subprocess.run([sys.executable, "-B", "-c", code], cwd=ROOT, capture_output=True, text=True, input="x\n")
        self.assertEqual((run.returncode, run.stdout, run.stderr), (0, "", ""))

    def test_few_calls_within_one_another(self):
        calls = calls_of_all() + [("km_sum", 0, 32, message_of(100000)), ("km_sum", 3, 100000, [])]
        limit = sys.getrecursionlimit()
        depth = 0
        frame = sys._getframe()
        while frame is not None:
            depth += 1
            frame = frame.f_back
        sys.setrecursionlimit(depth + 30)
        try:
            for call in calls:
                answer_to(call)
        finally:
            sys.setrecursionlimit(limit)


if __name__ == "__main__":
    unittest.main()
