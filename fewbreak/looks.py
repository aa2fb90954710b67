"""Programs that show some parts of the letters, that blot one out, or that stand one behind another."""

from fewbreak.errors import HeldTwice, UnknownPart, UnlikeParts
from fewbreak.letters import Letters
from fewbreak.programs import Program
from fewbreak.walks import walked


def check_names(letters, names):
    """Raises an error for names that are not those of different parts."""
    for name in names:
        if name not in letters.names:
            raise UnknownPart(name)
    for at, name in enumerate(names):
        if name in names[:at]:
            raise HeldTwice(name)


def narrowed(letters, names):
    """The letters with just the parts with some names, in the order of the names."""
    check_names(letters, names)
    parts = [(name, letters.signs_of(name)) for name in names]
    return Letters(*parts)


def look(letters, names):
    """The program that writes each letter with its signs at some parts."""
    write = narrowed(letters, names)
    lines = [(letters.seen(letter, names), 0) for letter in letters.listed()]
    return Program(letters, write, [lines], [True])


def _blotted(letters, letter, name):
    """A letter with the first sign of a part in the place of its sign."""
    signs = []
    for one, sign in zip(letters.names, letter):
        signs.append(letters.signs_of(one)[0] if one == name else sign)
    return "".join(signs)


def blot(letters, name):
    """The program that writes each letter with the first sign of a part in the place of its sign."""
    if name not in letters.names:
        raise UnknownPart(name)
    lines = [(_blotted(letters, letter, name), 0) for letter in letters.listed()]
    return Program(letters, letters, [lines], [True])


def _line_behind(second, line, standing):
    """What a standing of the second program makes of a line of the first one: None, or a letter and two standings."""
    if line is None:
        return None
    letter, after = line
    behind = second.line_of(standing, letter)
    if behind is None:
        return None
    return behind[0], (after, behind[1])


def behind_each_other(first, second):
    """The program of which the second program reads what the first one writes."""
    if first.write != second.read:
        raise UnlikeParts(str(first.write), str(second.read))

    def lines_of(key):
        return [_line_behind(second, line, key[1]) for line in first.rows[key[0]]]

    keys, _ = walked((0, 0), lambda key: [line[1] for line in lines_of(key) if line is not None])
    numbers = {key: number for number, key in enumerate(keys)}
    rows = []
    for key in keys:
        rows.append([None if line is None else (line[0], numbers[line[1]]) for line in lines_of(key)])
    ends = [first.ends[one] and second.ends[other] for one, other in keys]
    return Program(first.read, second.write, rows, ends)
