"""The interface: every name with its arguments, and each refusal under its one class."""

import importlib
import inspect
import unittest

from breakreports import errors
from breakreports.errors import ReportError
from breakreports.lines import lines
from breakreports.merging import matched, updated
from breakreports.notes import read
from breakreports.pages import paged
from breakreports.plans import done
from samples import report_with

ARGUMENTS = {
    "reports": {"in_order": "report rows"},
    "lines": {"lines": "report rows", "totals": "report rows"},
    "pages": {"paged": "report rows size again"},
    "plans": {"plain": "report", "done": "report plan rows most"},
    "merging": {"matched": "one other keys", "updated": "masters moves"},
    "notes": {"written": "report", "read": "text"},
}

# Of each class one refusal, with all that is set on it.
REFUSALS = (
    ("BadReport", {"part": "keys", "number": 1}, lines, (report_with(keys=(0, 0)), [])),
    ("BadSize", {}, paged, (report_with(), [], 15, ())),
    ("BadSize", {}, done, (report_with(), (), [], 5001)),
    ("BadAgain", {}, paged, (report_with(), [], 16, (3,))),
    ("BadKeys", {}, matched, ([], [], ())),
    ("BadRows", {"number": 1}, lines, (report_with(), [(1, 1, 1), None])),
    ("BadRows", {"number": 0}, matched, ([()], [], ((0, 0),))),
    ("BadRows", {"number": 0}, updated, ([()], [])),
    ("BadOrder", {"number": 1}, lines, (report_with(), [(1, 1, 1), (0, 0, 0)])),
    ("BadOrder", {"number": 1}, matched, ([], [(1,), (0,)], ((0, 0),))),
    ("BadOrder", {"number": 1}, updated, ([(1, 1), (1, 1)], [])),
    ("BadPlan", {"number": 0}, done, (report_with(), ((),), [], 0)),
    ("BadMoves", {"number": 0}, updated, ([], [()])),
    ("BadText", {"row": 1}, read, ("fields 1\nfields 1",)),
    ("BadReport", {"part": "fields", "number": 0}, read, ("fields 9\nkeys\nheads off\nfoot -\nrows on",)),
)


class TestInterface(unittest.TestCase):
    def test_functions_and_their_arguments(self):
        for name, functions in ARGUMENTS.items():
            module = importlib.import_module(f"breakreports.{name}")
            for function, arguments in functions.items():
                told = inspect.signature(getattr(module, function)).parameters
                self.assertEqual(list(told), arguments.split(), function)

    def test_each_refusal_is_of_its_own_class_and_of_none_of_the_others(self):
        names = {name for name, worths, ask, told in REFUSALS}
        self.assertEqual(names, {name for name in vars(errors) if name.startswith("Bad")})
        for name, worths, ask, told in REFUSALS:
            with self.subTest(name=name, ask=ask.__name__):
                with self.assertRaises(ReportError) as caught:
                    ask(*told)
                self.assertIsInstance(caught.exception, ValueError)
                found = {other for other in names if isinstance(caught.exception, getattr(errors, other))}
                self.assertEqual(found, {name})
                self.assertEqual(vars(caught.exception), worths)


if __name__ == "__main__":
    unittest.main()
