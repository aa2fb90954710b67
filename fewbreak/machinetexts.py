"""Texts of machines, and what texts of programs share with them."""

from fewbreak.errors import BadText, TooMany
from fewbreak.letters import LOWERCASE, is_name
from fewbreak.machines import Machine
from fewbreak.sides import MOST_COLUMNS, NO_LETTER, columns, many_columns

MOST_IN_TEXT = 12
MOST_ARROWS = 40
TAPES = ("1", "2", "3", "4")


def word_lines(text):
    """For each line of a text the list of its words, which is empty for a line that has no form at all."""
    lines = text.split("\n")
    found = [line.split(" ") for line in lines]
    if found.pop() != [""]:
        found.append([])
    return [[] if "" in words else words for words in found]


def fitting_letters(letters, pattern):
    """The list of the places of the letters that a pattern of signs and `?` fits; empty for another string."""
    if len(pattern) != len(letters.names):
        return []
    return [place for place, letter in enumerate(letters.listed()) if _fits(pattern, letter)]


def _fits(pattern, letter):
    """Whether each character of a pattern fits the sign of a letter."""
    return all([one == "?" or one == sign for one, sign in zip(pattern, letter)])


def _begins(words):
    """Whether the words of a line begin a standing."""
    if len(words) not in (2, 3) or words[0] != "standing" or not is_name(words[1]):
        return False
    return len(words) == 2 or words[2] == "end"


def read_standings(lines, arrow_of):
    """The ends of the standings behind the first line, and for each standing the list of its arrows.

    An arrow is a pair of what arrow_of makes of the words ahead of its last one, and the standing to which it leads.
    Words that are those of no arrow give None.
    """
    numbers = {}
    ends = []
    arrows = []
    for line in range(1, len(lines)):
        words = lines[line]
        if _begins(words):
            if len(ends) == MOST_IN_TEXT:
                raise BadText(line, "many")
            if words[1] in numbers:
                raise BadText(line, "twice")
            numbers[words[1]] = len(ends)
            ends.append(len(words) == 3)
            arrows.append([])
        else:
            if not ends or not words or not is_name(words[-1]):
                raise BadText(line, "form")
            arrow = arrow_of(words[:-1])
            if arrow is None:
                raise BadText(line, "form")
            if len(arrows[-1]) == MOST_ARROWS:
                raise BadText(line, "many")
            arrows[-1].append((line, arrow, words[-1]))
    if not ends:
        raise BadText(len(lines), "missing")
    return ends, [_led(row, numbers) for row in arrows]


def _led(row, numbers):
    """The arrows of a standing with the numbers of the standings to which they lead."""
    for line, _, name in row:
        if name not in numbers:
            raise BadText(line, "unknown")
    return [(arrow, numbers[name]) for _, arrow, name in row]


def _head_tapes(letters, words):
    """The number of tapes that the first line of a machine tells."""
    if len(words) != 2 or words[0] != "machine" or words[1] not in TAPES:
        raise BadText(0, "form")
    tapes = int(words[1])
    if many_columns(letters, tapes) > MOST_COLUMNS:
        raise BadText(0, "many")
    return tapes


def _fitting_items(letters, pattern):
    """The list of the items that a pattern fits, with 0 for `#` and 1 more than its place for a letter."""
    if pattern == NO_LETTER:
        return [0]
    if pattern == "*":
        return list(range(len(letters) + 1))
    return [place + 1 for place in fitting_letters(letters, pattern)]


def _fitting_columns(letters, tapes, patterns):
    """The list of the places of the columns that an arrow fits; None for words that are no patterns for the tapes."""
    if len(patterns) != tapes:
        return None
    codes = [0]
    for pattern in patterns:
        items = _fitting_items(letters, pattern)
        if not items:
            return None
        codes = [code * (len(letters) + 1) + item for code in codes for item in items]
    return [code - 1 for code in codes if code > 0]


def _row_of(arrows, many, rest):
    """The next standings of a standing: those of the first arrows that fit, and a last resort."""
    row = [rest] * many
    for places, standing in arrows[::-1]:
        for place in places:
            row[place] = standing
    return row


def read_machine(letters, text, *, machine_name="made"):
    """The machine with a text. It is not made least."""
    lines = word_lines(text)
    tapes = _head_tapes(letters, lines[0]) if lines else 1
    ends, arrows = read_standings(lines, lambda patterns: _fitting_columns(letters, tapes, patterns))
    many = many_columns(letters, tapes)
    rest = len(ends)
    rows = [_row_of(row, many, rest) for row in arrows]
    if any([rest in row for row in rows]):
        rows.append([rest] * many)
        ends.append(False)
    return Machine(letters, tapes, rows, ends, machine_name=machine_name)


def _standing_text(machine, standing):
    """The lines of a standing in the text of a machine."""
    name = LOWERCASE[standing]
    lines = [f"standing {name} end" if machine.ends[standing] else f"standing {name}"]
    for place, column in enumerate(columns(machine.letters, machine.tapes)):
        after = LOWERCASE[machine.rows[standing][place]]
        lines.append(" ".join(column) + " " + after)
    return lines


def machine_text(machine):
    """A text of a machine."""
    if machine.standings > MOST_IN_TEXT:
        raise TooMany("standings", machine.standings)
    many = many_columns(machine.letters, machine.tapes)
    if many > MOST_ARROWS:
        raise TooMany("arrows", many)
    lines = [f"machine {machine.tapes}"]
    for standing in range(machine.standings):
        lines.extend(_standing_text(machine, standing))
    return "\n".join(lines) + "\n"
