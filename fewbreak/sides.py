"""Rows of runs side by side, and their columns.

A column is also known by its code: a tuple of numbers, 0 for `#` and 1 more than its place for a letter. Read as the
digits of a number, the code is 1 more than the place of the column.
"""

from fewbreak.errors import BadColumn, BadNumber, BadTable, TooMany

NO_LETTER = "#"
MOST_TAPES = 4
MOST_COLUMNS = 1000


def many_columns(letters, tapes):
    """The number of the columns of some tapes."""
    many = 1
    for _ in range(tapes):
        many = many * (len(letters) + 1)
    return many - 1


def check_tapes(letters, tapes):
    """Raises an error for a number of tapes that machines cannot have."""
    if tapes < 1:
        raise BadNumber(tapes)
    if tapes > MOST_TAPES:
        raise TooMany("tapes", tapes)
    many = many_columns(letters, tapes)
    if many > MOST_COLUMNS:
        raise TooMany("columns", many)


def _code_at(base, tapes, place):
    """The code of the column with an index."""
    rest = place + 1
    code = []
    for _ in range(tapes):
        code.append(rest % base)
        rest = rest // base
    return tuple(code[::-1])


def column_codes(letters, tapes):
    """The list of the codes of the columns, in order."""
    items = list(range(len(letters) + 1))
    codes = [()]
    for _ in range(tapes):
        codes = [code + (item,) for code in codes for item in items]
    return codes[1:]


def ended_masks(letters, tapes):
    """For each column, in order, the tapes at which it has `#`, as the bits of a number."""
    masks = [0]
    for tape in range(tapes):
        bits = [1 << tape] + [0] * len(letters)
        masks = [mask + bit for mask in masks for bit in bits]
    return masks[1:]


def code_place(letters, code):
    """The index of the column with a code; -1 for a code of zeros alone, which is that of no column."""
    base = len(letters) + 1
    found = 0
    for item in code:
        found = found * base + item
    return found - 1


def columns(letters, tapes):
    """A generator of the columns in order."""
    check_tapes(letters, tapes)
    items = [NO_LETTER] + letters.listed()
    for code in column_codes(letters, tapes):
        yield tuple([items[item] for item in code])


def _is_column(letters, column):
    """Whether a tuple of strings is a column of 1 to 4 tapes."""
    if not 1 <= len(column) <= MOST_TAPES or _is_bare(column):
        return False
    return all([item == NO_LETTER or letters.is_letter(item) for item in column])


def _is_bare(column):
    """Whether a tuple has only `#`."""
    return all([item == NO_LETTER for item in column])


def column_place(letters, column):
    """The index of a column in the order."""
    if not _is_column(letters, column):
        raise BadColumn(column)
    return code_place(letters, [0 if item == NO_LETTER else letters.place(item) + 1 for item in column])


def column_at(letters, tapes, place):
    """The column with an index."""
    check_tapes(letters, tapes)
    if not 0 <= place < many_columns(letters, tapes):
        raise BadNumber(place)
    items = [NO_LETTER] + letters.listed()
    return tuple([items[item] for item in _code_at(len(letters) + 1, tapes, place)])


def columns_of(row):
    """The list of the columns of a row."""
    length = max([len(run) for run in row])
    return [tuple([run[t] if t < len(run) else NO_LETTER for run in row]) for t in range(length)]


def _may_follow(before, column):
    """Whether a column may stand behind another one: a run that has ended does not go on."""
    return all([one != NO_LETTER or item == NO_LETTER for one, item in zip(before, column)])


def _first_unfilled(found):
    """The first index such that a list of columns up to it, and with it, is not filled; None if it is filled."""
    for at, column in enumerate(found):
        if _is_bare(column) or at > 0 and not _may_follow(found[at - 1], column):
            return at
    return None


def is_filled(found):
    """Whether a list of tuples is filled."""
    return _first_unfilled(found) is None


def runs_of(found, tapes):
    """The row with a filled list of columns."""
    at = _first_unfilled(found)
    if at is not None:
        raise BadTable(at)
    return [tuple([column[tape] for column in found if column[tape] != NO_LETTER]) for tape in range(tapes)]


def row_key(letters, row):
    """What rows of equally many runs are ordered by: the number of columns, and then their places."""
    found = columns_of(row)
    return len(found), tuple([column_place(letters, column) for column in found])
