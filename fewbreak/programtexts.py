"""Texts of programs."""

from fewbreak.errors import BadText
from fewbreak.machinetexts import fitting_letters, read_standings, word_lines
from fewbreak.programs import Program

COPY = "="


def _may_stand(read, write, name, sign):
    """Whether a character may stand in a written word in the place of a written part."""
    if sign != COPY:
        return sign in write.signs_of(name)
    if name not in read.names:
        return False
    return all([one in write.signs_of(name) for one in read.signs_of(name)])


def _is_written_word(read, write, word):
    """Whether a word tells what is written."""
    if len(word) != len(write.names):
        return False
    return all([_may_stand(read, write, name, sign) for name, sign in zip(write.names, word)])


def _written_letter(read, write, place, word):
    """The letter that a written word stands for when the letter with a place is read."""
    letter = read.listed()[place]
    signs = []
    for name, sign in zip(write.names, word):
        signs.append(read.seen(letter, [name]) if sign == COPY else sign)
    return "".join(signs)


def _fitting_lines(read, write, words):
    """The pairs of the place of a read letter that an arrow fits and its written letter; None for wrong words."""
    if len(words) != 2 or not _is_written_word(read, write, words[1]):
        return None
    places = fitting_letters(read, words[0])
    if not places:
        return None
    return [(place, _written_letter(read, write, place, words[1])) for place in places]


def _lines_of(arrows, many):
    """The lines of a standing: those of the first arrows that fit."""
    row = [None] * many
    for fitting, standing in arrows[::-1]:
        for place, letter in fitting:
            row[place] = (letter, standing)
    return row


def read_program(read, write, text, *, program_name="made"):
    """The program with a text."""
    lines = word_lines(text)
    if lines and lines[0] != ["program"]:
        raise BadText(0, "form")
    ends, arrows = read_standings(lines, lambda words: _fitting_lines(read, write, words))
    rows = [_lines_of(row, len(read)) for row in arrows]
    return Program(read, write, rows, ends, program_name=program_name)
