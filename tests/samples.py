"""Reports and rows that several tests use, and what every function of (report, rows) is."""

from breakreports.lines import lines, totals
from breakreports.reports import in_order

ASKED = (in_order, lines, totals)
PARTS = ("fields", "keys", "tests", "sums", "heads", "feet", "detail")
ALL_SUMS = (("count", 0), ("sum", 2), ("least", 2), ("most", 2))

# Values of every kind that may be handed in where another one is wanted.
NUMBERS = (0, 1, 5)
TRUTHS = (True, False)
OTHERS = ((), (1,), ((0, "eq", 1),), "", "eq", "count", None)


def report_with(**changes):
    """A report of three fields and two keys, with some parts changed."""
    parts = {
        "fields": 3,
        "keys": (0, 1),
        "tests": (),
        "sums": ALL_SUMS,
        "heads": (True, True, True),
        "feet": (((0, 1), None), ((1,), None), ((0,), None)),
        "detail": True,
    }
    for part in changes:
        assert part in parts
    parts.update(changes)
    return tuple(parts[part] for part in PARTS)


def plain_report(fields=1, keys=(), tests=()):
    """A report that tells nothing but its rows."""
    levels = len(keys) + 1
    return (fields, keys, tests, (), (False,) * levels, (None,) * levels, True)


def refused(error, ask, *told):
    """The refusal itself, of that very class, which asking this must give."""
    try:
        answer = ask(*told)
    except error as refusal:
        assert refusal.__class__ is error, refusal
        return refusal
    raise AssertionError(f"{ask.__name__}{told} is not refused but tells {answer}")
