"""What a report is, what its rows are, and which of them are in."""

from breakreports.errors import BadOrder, BadReport, BadRows

# The places of a report's parts.
FIELDS = 0
KEYS = 1
TESTS = 2
SUMS = 3
HEADS = 4
FEET = 5
DETAIL = 6
PARTS = 7

MOST_FIELDS = 5
MOST_KEYS = 3
MOST_TESTS = 4
MOST_SUMS = 4
MOST_ROWS = 60
MOST_NUMBER = 999
WORDS = ("eq", "ge", "lt", "ne")
KINDS = ("count", "least", "most", "sum")


def is_number(thing, least, most):
    """Tell whether it is a whole number from least to most."""
    # Python counts True and False among the integers; a report does not.
    if not isinstance(thing, int) or isinstance(thing, bool):
        return False
    return least <= thing <= most


def is_tuple_of(thing, many):
    """Tell whether it is a tuple of so many things."""
    return isinstance(thing, tuple) and len(thing) == many


def is_rising(thing, many):
    """Tell whether it is a tuple of rising unlike numbers from 0, all less than many."""
    if not isinstance(thing, tuple):
        return False
    least = 0
    for number in thing:
        if not is_number(number, least, many - 1):
            return False
        least = number + 1
    return True


def is_test(thing, many):
    """Tell whether it is a test of one of so many fields or sums."""
    if not is_tuple_of(thing, 3):
        return False
    place, word, number = thing
    return is_number(place, 0, many - 1) and word in WORDS and is_number(number, 0, MOST_NUMBER)


def is_sum(thing, fields):
    """Tell whether it is a sum over one of so many fields."""
    if not is_tuple_of(thing, 2):
        return False
    kind, field = thing
    return kind in KINDS and is_number(field, 0, fields - 1)


def is_foot(thing, sums):
    """Tell whether it is a level's foot in a report of so many sums, or None."""
    if thing is None:
        return True
    if not is_tuple_of(thing, 2):
        return False
    numbers, test = thing
    return is_rising(numbers, sums) and (test is None or is_test(test, sums))


def is_row(thing, fields):
    """Tell whether it is a row of so many fields."""
    return is_tuple_of(thing, fields) and all([is_number(number, 0, MOST_NUMBER) for number in thing])


def check_things(part, things, most, fits):
    """Refuse a part for its first thing, by its place, that doesn't fit or is one too many."""
    if not isinstance(things, tuple):
        raise BadReport(part, 0)
    for at in range(len(things)):
        if at >= most or not fits(at):
            raise BadReport(part, at)


def check_levels(part, things, levels):
    """Refuse a part that has too few things for the levels."""
    if len(things) < levels:
        raise BadReport(part, len(things))


def check_report(report):
    """Refuse what is no report."""
    if not is_tuple_of(report, PARTS):
        raise BadReport("report", 0)
    fields, keys, tests, sums, heads, feet, detail = report
    if not is_number(fields, 1, MOST_FIELDS):
        raise BadReport("fields", 0)
    check_things("keys", keys, MOST_KEYS, lambda at: is_number(keys[at], 0, fields - 1) and keys[at] not in keys[:at])
    check_things("tests", tests, MOST_TESTS, lambda at: is_test(tests[at], fields))
    check_things("sums", sums, MOST_SUMS, lambda at: is_sum(sums[at], fields))
    levels = len(keys) + 1
    check_things("heads", heads, levels, lambda at: isinstance(heads[at], bool))
    check_things("feet", feet, levels, lambda at: is_foot(feet[at], len(sums)))
    # Too few is told behind all that is wrong inside of heads and feet.
    check_levels("heads", heads, levels)
    check_levels("feet", feet, levels)
    if not isinstance(detail, bool):
        raise BadReport("detail", 0)


def check_each_row(rows, fits):
    """Refuse rows for the first that doesn't fit or is one too many."""
    for number, row in enumerate(rows):
        if number >= MOST_ROWS or not fits(row):
            raise BadRows(number)


def check_rows(rows, fields):
    """Refuse what are no rows of so many fields."""
    check_each_row(rows, lambda row: is_row(row, fields))


def holds(worth, word, number):
    """Tell whether a test holds of a worth; of None, which is no number, none does."""
    if worth is None:
        return False
    if word == "eq":
        return worth == number
    if word == "ne":
        return worth != number
    if word == "ge":
        return worth >= number
    return worth < number


def row_is_in(row, tests):
    """Tell whether all tests hold for the row."""
    return all([holds(row[field], word, number) for field, word, number in tests])


def row_key(row, keys):
    """Tell the row's numbers of the key fields."""
    return tuple([row[field] for field in keys])


def rows_in(report, rows):
    """Check the report and the rows, and tell the numbers of the rows that are in, as they stand."""
    check_report(report)
    check_rows(rows, report[FIELDS])
    return [number for number, row in enumerate(rows) if row_is_in(row, report[TESTS])]


def rising_rows(report, rows):
    """Tell the numbers of the rows that are in, and refuse them if their keys fall."""
    numbers = rows_in(report, rows)
    keys = report[KEYS]
    for ahead, number in zip(numbers, numbers[1:]):
        if row_key(rows[number], keys) < row_key(rows[ahead], keys):
            raise BadOrder(number)
    return numbers


def in_order(report, rows):
    """Tell the numbers of all rows that are in by rising keys, like ones as they stand."""
    numbers = rows_in(report, rows)
    return sorted(numbers, key=lambda number: row_key(rows[number], report[KEYS]))
