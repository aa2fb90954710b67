"""Yokes: lots put together from the lots of sides, which see some parts of the letters each."""

from fewbreak.errors import BadRun, TooMany, UnknownPart, UnlikeParts, UnlikeTapes
from fewbreak.follows import follows
from fewbreak.looks import look, narrowed
from fewbreak.rules import Rule
from fewbreak.runs import is_run, told_lot

MOST_SIDES = 4


def check_sides(letters, sides):
    """Raises an error for letters of sides that do not fit some letters."""
    if len(sides) > MOST_SIDES:
        raise TooMany("sides", len(sides))
    for side in sides:
        for name in side.names:
            if name not in letters.names:
                raise UnknownPart(name)
        seen = narrowed(letters, side.names)
        if seen != side:
            raise UnlikeParts(str(seen), str(side))
    for name in letters.names:
        if not any([name in side.names for side in sides]):
            raise UnknownPart(name)


def yoke(rules, wish):
    """None if all yokes of lots that keep the rules of their sides keep a wish, otherwise the first lot against it."""
    letters = wish.letters
    check_sides(letters, [rule.letters for rule in rules])
    looks = []
    for rule in rules:
        # such a rule is not made for the caller, so the limits of rules do not hold for it
        looks.append(Rule("carried", letters, rules=(rule,), program=look(letters, rule.letters.names)))
    return follows(looks, wish)


def _strips(side, run):
    """For each part of a side, by its name, the signs of a run at this part."""
    return {name: "".join([letter[at] for letter in run]) for at, name in enumerate(side.names)}


def _shared(strips, names):
    """What two runs must have in common to be put together: the length, and the signs at some parts."""
    lengths = [len(signs) for signs in strips.values()]
    return (lengths[0],) + tuple([strips[name] for name in names])


def _put_together(strips, more):
    """The strips of two runs in one."""
    found = {name: strips[name] for name in strips}
    for name in more:
        found[name] = more[name]
    return found


def _with_side(found, known, side, lot):
    """All ways to put a run of a side to one of the strips that were found, which have the known parts."""
    names = [name for name in side.names if name in known]
    fitting = {}
    for run in lot:
        strips = _strips(side, run)
        fitting.setdefault(_shared(strips, names), []).append(strips)
    wider = []
    for strips in found:
        for more in fitting.get(_shared(strips, names), []):
            wider.append(_put_together(strips, more))
    return wider


def _run_of(letters, strips):
    """The run that has some strips at the parts of the letters."""
    in_order = [strips[name] for name in letters.names]
    return tuple(["".join(signs) for signs in zip(*in_order)])


def yoked_lot(letters, sides, lots):
    """The yoke of told lots, one for each side."""
    check_sides(letters, sides)
    if len(lots) != len(sides):
        raise UnlikeTapes(len(lots), len(sides))
    for side, lot in zip(sides, lots):
        for at, run in enumerate(lot):
            if not is_run(side, run):
                raise BadRun(at)
    found = [_strips(sides[0], run) for run in told_lot(sides[0], lots[0])]
    known = list(sides[0].names)
    for side, lot in list(zip(sides, lots))[1:]:
        found = _with_side(found, known, side, told_lot(side, lot))
        known.extend(side.names)
    return told_lot(letters, [_run_of(letters, strips) for strips in found])
