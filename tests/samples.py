"""Reports and rows that several tests use, and every function of a report as one of (report, rows)."""

from breakreports.lines import lines, totals
from breakreports.notes import written
from breakreports.pages import paged
from breakreports.plans import done, plain
from breakreports.reports import in_order


def paged_of(report, rows):
    return paged(report, rows, 16, ())


def done_of(report, rows):
    return done(report, (("next", 1), ("row",), ("end",)), rows, 3)


def plain_of(report, rows):
    return plain(report)


def written_of(report, rows):
    return written(report)


OF_RISING = (lines, totals, paged_of)
OF_ROWS = OF_RISING + (in_order, done_of)
OF_REPORTS = OF_ROWS + (plain_of, written_of)
PARTS = ("fields", "keys", "tests", "sums", "heads", "feet", "detail")
ALL_SUMS = (("count", 0), ("sum", 2), ("least", 2), ("most", 2))

# Values of every kind that may be handed in where another one is wanted.
NUMBERS = (0, 1, 5)
TRUTHS = (True, False)
OTHERS = ((), (1,), ((0, "eq", 1),), "", "eq", "count", None)


def report_with(**changes):
    """A report of three fields and two keys, with some parts changed."""
    parts = {
        "fields": 3,
        "keys": (0, 1),
        "tests": (),
        "sums": ALL_SUMS,
        "heads": (True, True, True),
        "feet": (((0, 1), None), ((1,), None), ((0,), None)),
        "detail": True,
    }
    for part in changes:
        assert part in parts
    parts.update(changes)
    return tuple(parts[part] for part in PARTS)


def plain_report(fields=1, keys=(), tests=()):
    """A report that tells nothing but its rows."""
    levels = len(keys) + 1
    return (fields, keys, tests, (), (False,) * levels, (None,) * levels, True)


def refused(error, ask, *told):
    """The refusal itself, of that very class, which asking this must give."""
    try:
        answer = ask(*told)
    except error as refusal:
        assert refusal.__class__ is error, refusal
        return refusal
    raise AssertionError(f"{ask.__name__}{told} is not refused but tells {answer}")
