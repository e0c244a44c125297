"""The lines of a report, and all its totals."""

from breakreports.reports import DETAIL, FEET, HEADS, KEYS, SUMS, holds, rising_rows, row_key


def sum_worth(kind, field, rows):
    """Tell what one sum comes to over the rows."""
    if kind == "count":
        return len(rows)
    numbers = [row[field] for row in rows]
    if kind == "sum":
        return sum(numbers)
    if kind == "least":
        return min(numbers, default=None)
    return max(numbers, default=None)


def all_worths(report, rows):
    """Tell what all sums of the report come to over the rows, as a tuple."""
    return tuple([sum_worth(kind, field, rows) for kind, field in report[SUMS]])


def foot_lines(report, level, key, rows):
    """Tell a list of the foot of a group with these rows, an empty one if no foot is told."""
    foot = report[FEET][level]
    if foot is None:
        return []
    places, test = foot
    worths = all_worths(report, rows)
    if test is not None:
        tested, word, number = test
        if not holds(worths[tested], word, number):
            return []
    return [("foot", level, key, tuple([worths[place] for place in places]))]


def level_groups(report, rows, numbers, level):
    """Split the rows of these numbers into the level's groups, a list of (key, numbers)."""
    if level == 0:
        # Level 0 has its one group also if no row is in.
        return [((), numbers)]
    keys = report[KEYS][:level]
    groups = []
    for number in numbers:
        key = row_key(rows[number], keys)
        if not groups or groups[-1][0] != key:
            groups.append((key, []))
        groups[-1][1].append(number)
    return groups


def level_lines(report, rows, numbers, level):
    """Tell the lines of all groups of the level among the rows of these numbers."""
    told = []
    for key, group in level_groups(report, rows, numbers, level):
        if report[HEADS][level]:
            told.append(("head", level, key))
        if level < len(report[KEYS]):
            told.extend(level_lines(report, rows, group, level + 1))
        elif report[DETAIL]:
            told.extend([("row", number) for number in group])
        told.extend(foot_lines(report, level, key, [rows[number] for number in group]))
    return told


def lines(report, rows):
    """Tell the lines of the report over the rows."""
    return level_lines(report, rows, rising_rows(report, rows), 0)


def totals(report, rows):
    """Tell for each level what all sums come to in each of its groups."""
    numbers = rising_rows(report, rows)
    told = []
    for level in range(len(report[KEYS]) + 1):
        groups = level_groups(report, rows, numbers, level)
        told.append([(key, all_worths(report, [rows[number] for number in group])) for key, group in groups])
    return told
