"""Two sides brought together: rows matched by keys, masters brought up to date by moves."""

from breakreports.errors import BadKeys, BadMoves, BadOrder
from breakreports.reports import (
    MOST_FIELDS, MOST_KEYS, MOST_NUMBER, MOST_ROWS, check_each_row, is_number, is_row, is_tuple_of, row_key,
)

MOVES = ("add", "drop", "set")


def is_pair(thing):
    """Tell whether it is a pair of fields, one of each side."""
    return is_tuple_of(thing, 2) and all([is_number(field, 0, MOST_FIELDS - 1) for field in thing])


def check_keys(keys):
    """Refuse what are no pairs of key fields."""
    if not isinstance(keys, tuple) or not 1 <= len(keys) <= MOST_KEYS:
        raise BadKeys("keys are one to three pairs of fields")
    if not all([is_pair(pair) for pair in keys]):
        raise BadKeys("a key is a pair of fields from 0 to 4")


def is_side_row(thing, fields):
    """Tell whether it is a row of any width that has the key fields."""
    if not isinstance(thing, tuple) or not max(fields) < len(thing) <= MOST_FIELDS:
        return False
    return is_row(thing, len(thing))


def side_keys(rows, fields):
    """Check the rows of one side, and tell the keys of all of them."""
    check_each_row(rows, lambda row: is_side_row(row, fields))
    keys = [row_key(row, fields) for row in rows]
    for number in range(1, len(keys)):
        if keys[number] < keys[number - 1]:
            raise BadOrder(number)
    return keys


def numbers_of(key, keys):
    """Tell the numbers of the rows that have the key."""
    return [number for number, found in enumerate(keys) if found == key]


def matched(one, other, keys):
    """Tell (key, numbers of rows, numbers of the other side's rows) for each key met on either side."""
    check_keys(keys)
    one_keys = side_keys(one, [pair[0] for pair in keys])
    other_keys = side_keys(other, [pair[1] for pair in keys])
    met = sorted(set(one_keys + other_keys))
    return [(key, numbers_of(key, one_keys), numbers_of(key, other_keys)) for key in met]


def check_masters(masters):
    """Refuse masters that can't be or whose keys don't rise."""
    check_each_row(masters, lambda master: is_row(master, 2))
    for number in range(1, len(masters)):
        if masters[number][0] <= masters[number - 1][0]:
            raise BadOrder(number)


def is_move(thing):
    """Tell whether it is a move."""
    if not is_tuple_of(thing, 3):
        return False
    key, word, worth = thing
    return is_number(key, 0, MOST_NUMBER) and word in MOVES and is_number(worth, 0, MOST_NUMBER)


def check_moves(moves):
    """Refuse moves for the first that can't be, falls, or is one too many."""
    least = 0
    for number, move in enumerate(moves):
        if number >= MOST_ROWS or not is_move(move) or move[0] < least:
            raise BadMoves(number)
        least = move[0]


def updated(masters, moves):
    """Do the moves in turn, and tell (masters behind, moves that can't be done)."""
    check_masters(masters)
    check_moves(moves)
    worths = {key: worth for key, worth in masters}
    undone = []
    for number, (key, word, worth) in enumerate(moves):
        if word == "add" and key in worths:
            undone.append((number, "there"))
        elif word != "add" and key not in worths:
            undone.append((number, "lacks"))
        elif word == "drop":
            del worths[key]
        else:
            worths[key] = worth
    return ([(key, worths[key]) for key in sorted(worths)], undone)
