"""Pours: lots that keep rules, with all their runs together."""

from fewbreak.broken import rough_broken
from fewbreak.choosing import picked
from fewbreak.errors import BadRun, TooMany
from fewbreak.follows import check_asked, first_taken, many_enough
from fewbreak.least import rough_turned
from fewbreak.meaning import lot_keeps
from fewbreak.rules import check_letters
from fewbreak.runs import is_run
from fewbreak.sides import columns_of

MOST_RULES = 3


def _colourings(many, tapes):
    """The ascending rows of colours below a number, in order: tapes may change places, so these are enough."""
    found = [()]
    for _ in range(tapes):
        found = [colours + (one,) for colours in found for one in range(colours[-1] if colours else 0, many)]
    return found


def _first_row_with(rules, wish, colours, most):
    """The first row, with at most so many columns, that shows with some colours that rules do not pour to a wish."""
    tapes = len(colours)
    parts = [rough_broken(wish, tapes)]
    for colour, rule in enumerate(rules):
        picks = [tape for tape in range(tapes) if colours[tape] == colour]
        if picks:
            parts.append(rough_turned(picked(rough_broken(rule, len(picks)), tapes, picks)))
    return first_taken(parts, most)


def _shortest(rules, wish, most_tapes):
    """The number of columns of the shortest rows that show that rules do not pour to a wish; None without one.

    Rows whose runs stand twice count, too, so it is enough to look at rows with as many runs as can be needed.
    """
    most = None
    for colours in _colourings(len(rules), most_tapes):
        row = _first_row_with(rules, wish, colours, most)
        if row is not None:
            most = len(columns_of(row))
    return most


def _first_coloured(rules, wish, most_tapes):
    """The first coloured row, where no more tapes can be needed; there are rules and tapes."""
    length = _shortest(rules, wish, most_tapes)
    if length is None:
        return None
    for tapes in range(1, most_tapes + 1):
        for colours in _colourings(len(rules), tapes):
            row = _first_row_with(rules, wish, colours, length)
            if row is not None:
                return list(zip(row, colours))
    return None


def pours(rules, wish):
    """None if rules pour to a wish, otherwise the first coloured row, as pairs of a run and a colour."""
    if len(rules) > MOST_RULES:
        raise TooMany("rules", len(rules))
    check_asked(rules, wish)
    if not rules:
        return None
    most_tapes = many_enough(wish)
    return _first_coloured(rules, wish, most_tapes) if most_tapes > 0 else None


def pours_not(rules, wish, coloured):
    """Whether pairs of a run and a colour show that rules do not pour to a wish, by the plain meaning."""
    check_letters(wish.letters, rules)
    for at, (run, _) in enumerate(coloured):
        if not is_run(wish.letters, run):
            raise BadRun(at)
    wish_kept = lot_keeps(wish, [run for run, _ in coloured])
    kept = []
    for index, rule in enumerate(rules):
        kept.append(lot_keeps(rule, [run for run, colour in coloured if colour == index]))
    if not all([0 <= colour < len(rules) for _, colour in coloured]):
        return False
    return not wish_kept and all(kept)
