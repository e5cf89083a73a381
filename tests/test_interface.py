"""The interface as it stands in the document, and what its last paragraph says of every call."""

import builtins
import contextlib
import copy
import inspect
import io
import unittest
from unittest import mock

from rowsets import columns
from support import FULL, HIGH, LOW, Asking

# Each call with its arguments in the document's order: one that is answered, and refused ones.
CALLS = (
    ("where8", dict(n=3, how=4, value=1, col=[1, 2, -128]), [1, 0b010]),
    ("where8", dict(n=-1, how=4, value=1, col=[]), [-1]),
    ("where8", dict(n=1, how=6, value=1, col=[1]), [-2]),
    ("where16", dict(n=3, how=2, value=1, col=[1, 2, -32768]), [1, 0b100]),
    ("where16", dict(n=4097, how=2, value=1, col=[]), [-1]),
    ("where16", dict(n=1, how=-1, value=1, col=[1]), [-2]),
    ("where32", dict(n=3, how=0, value=HIGH, col=[HIGH, 2, LOW]), [1, 0b001]),
    ("where32", dict(n=-1, how=0, value=1, col=[]), [-1]),
    ("where32", dict(n=1, how=6, value=1, col=[1]), [-2]),
    ("where64", dict(n=3, how=5, value=2 ** 63 - 1, col=[2 ** 63 - 1, 2 ** 63 - 2, -2 ** 63]), [1, 0b001]),
    ("where64", dict(n=-1, how=5, value=1, col=[]), [-1]),
    ("where64", dict(n=1, how=6, value=1, col=[1]), [-2]),
    ("wherebits", dict(n=3, how=1, value=2143289344, col=[0, 2143289344, 4294967295]), [3, 0b111]),
    ("wherebits", dict(n=-1, how=1, value=1, col=[]), [-1]),
    ("wherebits", dict(n=1, how=6, value=1, col=[1]), [-2]),
    ("join", dict(n=4, how=4, a=[FULL], b=[1]), [3, 0b1110]),
    ("join", dict(n=4, how=6, a=[1], b=[]), [3, 0b1110]),
    ("join", dict(n=64, how=1, a=[FULL], b=[1]), [64, FULL]),
    ("join", dict(n=-1, how=6, a=[], b=[]), [-1]),
    ("join", dict(n=4, how=7, a=[1], b=[1]), [-2]),
    ("shift", dict(n=66, by=1, a=[2 ** 63, FULL]), [2, 0, 0b11]),
    ("shift", dict(n=66, by=-64, a=[2 ** 63, FULL]), [2, 0b11, 0]),
    ("shift", dict(n=-1, by=1, a=[]), [-1]),
    ("fill", dict(n=66, a=[2 ** 63, 0], on=[FULL, FULL]), [3, 2 ** 63, 0b11]),
    ("fill", dict(n=-1, a=[], on=[]), [-1]),
    ("ends", dict(n=66, a=[2 ** 63, FULL]), [1, 2 ** 63, 0, 0, 0b10]),
    ("ends", dict(n=-1, a=[]), [-1]),
    ("test", dict(n=3, a=[FULL], b=[FULL]), [6]),
    ("test", dict(n=-1, a=[], b=[]), [-1]),
    ("nth", dict(n=66, k=2, a=[2 ** 63, FULL]), [65]),
    ("nth", dict(n=66, k=3, a=[2 ** 63, FULL]), [-2]),
    ("nth", dict(n=-1, k=-1, a=[]), [-1]),
    ("bytes_of", dict(n=3, a=[FULL - 1]), [2, 0, 255, 255]),
    ("bytes_of", dict(n=-1, a=[]), [-1]),
    ("ofbytes", dict(n=3, given=[127, 128, 255]), [2, 0b110]),
    ("ofbytes", dict(n=-1, given=[]), [-1]),
    ("pick", dict(n=3, col=[7, 8, 9], a=[FULL - 1]), [2, 8, 9]),
    ("pick", dict(n=-1, col=[], a=[]), [-1]),
    ("put", dict(n=3, col=[7, 8, 9], a=[FULL - 1], given=[1, 2, 3]), [2, 7, 1, 2]),
    ("put", dict(n=-1, col=[], a=[], given=[]), [-1]),
    ("choose", dict(n=3, x=[7, 8, 9], y=[1, 2, 3], a=[FULL - 1]), [2, 1, 8, 9]),
    ("choose", dict(n=-1, x=[], y=[], a=[]), [-1]),
    ("add", dict(n=3, by=1, col=[HIGH, HIGH, LOW], a=[FULL - 1]), [1, HIGH, LOW, LOW + 1, 0b010]),
    ("add", dict(n=-1, by=1, col=[], a=[]), [-1]),
    ("rules", dict(n=2, count=2, table=[1, 2] * 8, steps=[0, 7, 0, 1, 6, 0, 0, 0]), [1, 0b10]),
    ("rules", dict(n=2, count=1, table=[1, 2] * 8, steps=[0, 8, 0, 1]), [-2]),
    ("rules", dict(n=2, count=65, table=[], steps=[]), [-2]),
    ("rules", dict(n=-1, count=65, table=[], steps=[]), [-1]),
)
NAMES = (
    "where8", "where16", "where32", "where64", "wherebits", "join", "shift", "fill", "ends", "test", "nth",
    "bytes_of", "ofbytes", "pick", "put", "choose", "add", "rules")


def state_of(module):
    return {name: copy.deepcopy(value) for name, value in vars(module).items() if name != "__builtins__"}


def refuse(*args, **kwargs):
    raise AssertionError("something was printed, read or imported")


class Interface(Asking):
    def test_every_call_is_tried(self):
        self.assertEqual(sorted({name for name, given, wanted in CALLS}), sorted(NAMES))

    def test_names_and_arguments(self):
        for name, given, wanted in CALLS:
            call = getattr(columns, name)
            self.assertEqual(list(inspect.signature(call).parameters), list(given), name)
            self.assertEqual(call(**given), wanted, (name, given))
            self.check(wanted, name, *given.values())

    def test_nothing_is_kept_from_one_call_to_the_next(self):
        before = state_of(columns)
        for call_first in CALLS:
            for name, given, wanted in (call_first,) + CALLS[::-1]:
                self.assertEqual(getattr(columns, name)(*given.values()), wanted, (call_first[0], name))
        self.assertEqual(state_of(columns), before)

    def test_nothing_is_printed_read_or_imported(self):
        out, err = io.StringIO(), io.StringIO()
        for name, given, wanted in CALLS:
            call, values = getattr(columns, name), list(given.values())
            with contextlib.redirect_stdout(out), contextlib.redirect_stderr(err), \
                    mock.patch.object(builtins, "open", refuse), mock.patch.object(builtins, "input", refuse), \
                    mock.patch.object(builtins, "__import__", refuse):
                answer = call(*values)
            self.assertEqual(answer, wanted, name)
        self.assertEqual((out.getvalue(), err.getvalue()), ("", ""))
        for line in inspect.getsource(columns).split("\n"):
            self.assertNotRegex(line, r"^\s*(import|from)\b")


if __name__ == "__main__":
    unittest.main()
