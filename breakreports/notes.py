"""A report's text: written, and read again."""

from breakreports.errors import BadText
from breakreports.reports import check_report

# The kinds of rows, as they stand one behind the other.
KINDS_IN_TURN = ("fields", "keys", "test", "sum", "heads", "foot", "rows")
# Of these there may be any number of rows, also none.
KINDS_OF_MANY = ("test", "sum", "foot")
MOST_FIGURES = 3


def row_text(things):
    """Tell a row of words."""
    return " ".join([str(thing) for thing in things])


def switch_word(on):
    """Tell the word for True or False."""
    return "on" if on else "off"


def foot_text(foot):
    """Tell the row of a level's foot."""
    if foot is None:
        return "foot -"
    numbers, test = foot
    test_words = () if test is None else ("if", *test)
    return row_text(("foot", *numbers, *test_words))


def written(report):
    """Tell the report's text."""
    check_report(report)
    fields, keys, tests, sums, heads, feet, detail = report
    rows = [row_text(("fields", fields)), row_text(("keys", *keys))]
    rows.extend([row_text(("test", *test)) for test in tests])
    rows.extend([row_text(("sum", *told)) for told in sums])
    rows.append(row_text(["heads"] + [switch_word(head) for head in heads]))
    rows.extend([foot_text(foot) for foot in feet])
    rows.append(row_text(("rows", switch_word(detail))))
    return "\n".join(rows)


def read_number(word, row):
    """Read a number of one to three figures, none needless."""
    if not word.isdigit() or len(word) > MOST_FIGURES or word != str(int(word)):
        raise BadText(row)
    return int(word)


def read_numbers(words, row):
    """Read any count of numbers."""
    return tuple([read_number(word, row) for word in words])


def read_switch(word, row):
    """Read True or False."""
    if word not in ("on", "off"):
        raise BadText(row)
    return word == "on"


def read_switches(words, row):
    """Read any count of True and False."""
    return tuple([read_switch(word, row) for word in words])


def check_count(words, many, row):
    """Refuse a row that has another count of words."""
    if len(words) != many:
        raise BadText(row)


def read_fields(words, row):
    """Read how many fields there are."""
    check_count(words, 1, row)
    return read_number(words[0], row)


def read_test(words, row):
    """Read a test, whatever its word."""
    check_count(words, 3, row)
    place, word, number = words
    return (read_number(place, row), word, read_number(number, row))


def read_sum(words, row):
    """Read a sum, whatever its kind."""
    check_count(words, 2, row)
    kind, field = words
    return (kind, read_number(field, row))


def read_foot(words, row):
    """Read a level's foot."""
    if words == ["-"]:
        return None
    if "if" not in words:
        return (read_numbers(words, row), None)
    at = words.index("if")
    return (read_numbers(words[:at], row), read_test(words[at + 1:], row))


def read_detail(words, row):
    """Read whether rows are told."""
    check_count(words, 1, row)
    return read_switch(words[0], row)


READERS = {
    "fields": read_fields,
    "keys": read_numbers,
    "test": read_test,
    "sum": read_sum,
    "heads": read_switches,
    "foot": read_foot,
    "rows": read_detail,
}


def kinds_from(turn):
    """Tell the kinds of rows that may stand where those from this turn on are still to come."""
    kinds = []
    for kind in KINDS_IN_TURN[turn:]:
        kinds.append(kind)
        if kind not in KINDS_OF_MANY:
            return kinds
    return kinds


def read_rows(rows):
    """Read all rows, and tell for each kind a list of what its rows tell."""
    found = {kind: [] for kind in KINDS_IN_TURN}
    turn = 0
    for row, text in enumerate(rows):
        kind, *words = text.split(" ")
        if kind not in kinds_from(turn):
            raise BadText(row)
        reader = READERS[kind]
        found[kind].append(reader(words, row))
        turn = KINDS_IN_TURN.index(kind)
        if kind not in KINDS_OF_MANY:
            turn += 1
    if turn < len(KINDS_IN_TURN):
        raise BadText(len(rows))
    return found


def read(text):
    """Tell the report of a text."""
    found = read_rows(text.split("\n"))
    report = (
        found["fields"][0],
        found["keys"][0],
        tuple(found["test"]),
        tuple(found["sum"]),
        found["heads"][0],
        tuple(found["foot"]),
        found["rows"][0],
    )
    check_report(report)
    return report
