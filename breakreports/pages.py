"""A report's lines laid on pages, those that belong together on one page."""

from breakreports.errors import BadAgain, BadSize
from breakreports.lines import lines
from breakreports.reports import HEADS, KEYS, is_number, is_rising, row_key

LEAST_SIZE = 16
MOST_SIZE = 60


def stands_with(ahead, line):
    """Tell whether a line must stand on the page of the one ahead of it."""
    if ahead[0] == "head":
        return line[0] != "head" or line[1] > ahead[1]
    if line[0] != "foot":
        return False
    return ahead[0] == "row" or line[1] < ahead[1]


def line_blocks(told):
    """Split the lines into blocks, lists of lines that stand together."""
    blocks = []
    for at, line in enumerate(told):
        if at > 0 and stands_with(told[at - 1], line):
            blocks[-1].append(line)
        else:
            blocks.append([line])
    return blocks


def again_lines(report, rows, again, line):
    """Tell anew the heads of the told levels' groups in which a page's next line stands."""
    if line[0] == "row":
        key = row_key(rows[line[1]], report[KEYS])
        levels = len(key) + 1
    else:
        key = line[2]
        # A head is itself the head of the deepest group in which it stands.
        levels = line[1] if line[0] == "head" else line[1] + 1
    return [("again", level, key[:level]) for level in again if level < levels and report[HEADS][level]]


def paged(report, rows, size, again):
    """Tell the report's lines on pages of at most so many lines, a list of lists."""
    told = lines(report, rows)
    if not is_number(size, LEAST_SIZE, MOST_SIZE):
        raise BadSize("a page's size is from 16 to 60")
    if not is_rising(again, len(report[HEADS])):
        raise BadAgain("levels told again are the report's, rising and unlike")
    pages = []
    for block in line_blocks(told):
        if not pages or len(pages[-1]) + len(block) > size:
            pages.append([("page", len(pages) + 1)] + again_lines(report, rows, again, block[0]))
        pages[-1].extend(block)
    return pages
