"""The rows whose lots break a rule.

They are found as rough machines first, for each rule within the rule, since these have far fewer standings than least
ones. All of them are padded: they read behind the end of a run nothing but `#`. A rule is broken by a lot if it is
broken by some part with as many runs as its number; so for more tapes than that the machine is lifted from fewer.
"""

from fewbreak.choosing import picked
from fewbreak.combine import any_of, every_of, turned
from fewbreak.errors import BadNumber, TooMany
from fewbreak.least import Rough, least_from, padded, rough_of, rough_turned, trimmed
from fewbreak.passing import rough_behind
from fewbreak.sides import MOST_COLUMNS, MOST_TAPES, column_codes, column_place, columns_of, many_columns
from fewbreak.walks import numbered, walked


def _rules_within(rule):
    """The list of the rules within a rule, itself included."""
    found = [rule]
    for argument in rule.rules:
        found.extend(_rules_within(argument))
    return found


def check_room(rule, tapes):
    """Raises TooMany if the broken rows of a rule for some tapes need too many tapes or columns."""
    if tapes == 0:
        return
    within = _rules_within(rule)
    reach = max([tapes] + [one.rules[0].number for one in within if one.kind == "beside"])
    if reach > MOST_TAPES:
        raise TooMany("tapes", reach)
    many = max([many_columns(one.letters, reach) for one in within])
    if many > MOST_COLUMNS:
        raise TooMany("columns", many)


def subsets(many, size):
    """The ascending tuples of so many different numbers below a number, in ascending order."""
    found = [()]
    for _ in range(size):
        found = [some + (one,) for some in found for one in range(some[-1] + 1 if some else 0, many)]
    return found


def _maps(many, size):
    """All tuples of so many numbers below a number."""
    found = [()]
    for _ in range(size):
        found = [some + (one,) for some in found for one in range(many)]
    return found


def _nothing(rule, tapes):
    """The machine of no rows."""
    return any_of(rule.letters, tapes, [])


def lifts(rule, fewer, tapes):
    """A list of machines: each takes the rows whose runs at just some tapes, as many as `fewer` says, break a rule."""
    if fewer == 0:
        return []
    found = rough_broken(rule, fewer)
    return [picked(found, tapes, picks) for picks in subsets(tapes, fewer)]


def _none_rough(rule, tapes):
    """All rows have a run, so they break none."""
    return rough_turned(_nothing(rule, tapes))


def _each_rough(rule, tapes):
    """The runs that the machine does not take."""
    return rough_turned(padded(rough_of(rule.machine)))


def _bar_rough(rule, tapes):
    """The rows of whose runs, in some order and as often as need be, the machine takes a row."""
    taker = padded(rough_of(rule.machine))
    return any_of(rule.letters, tapes, [picked(taker, tapes, picks) for picks in _maps(tapes, rule.machine.tapes)])


def _pair_rough(rule, nexts_of, unlike):
    """The machine of the pairs of runs that break a rule.

    Its standings are 0 while the runs agree, 1 for broken pairs, and 2 for pairs that are safe, whatever follows. What
    nexts_of makes of two letters is the standing behind 0; behind `#` and a letter this is unlike.
    """
    letters = rule.letters.listed()
    nexts = []
    for one, other in column_codes(rule.letters, 2):
        nexts.append(unlike if one == 0 or other == 0 else nexts_of(letters[one - 1], letters[other - 1]))
    rows = [[0, 1, 2], [1, 1, 1], [2, 2, 2]]
    return trimmed(Rough(rule.letters, 2, nexts, rows, [False, True, False]))


def _same_rough(rule, tapes):
    """The pairs of runs that look unlike."""

    def nexts_of(one, other):
        return 0 if rule.letters.seen(one, rule.before) == rule.letters.seen(other, rule.before) else 1

    return _nothing(rule, tapes) if tapes == 1 else _pair_rough(rule, nexts_of, 1)


def _led_rough(rule, tapes):
    """The pairs of runs that are led apart."""

    def nexts_of(one, other):
        if rule.letters.seen(one, rule.before) != rule.letters.seen(other, rule.before):
            return 2
        return 0 if rule.letters.seen(one, rule.after) == rule.letters.seen(other, rule.after) else 1

    return _nothing(rule, tapes) if tapes == 1 else _pair_rough(rule, nexts_of, 2)


def _both_rough(rule, tapes):
    """The rows that break at least one argument."""
    return any_of(rule.letters, tapes, [rough_broken(argument, tapes) for argument in rule.rules])


def _either_rough(rule, tapes):
    """The rows that break all arguments."""
    return every_of(rule.letters, tapes, [rough_broken(argument, tapes) for argument in rule.rules])


def _gives_rough(rule, tapes):
    """The rows of which all runs, or fewer, keep the first argument and break the second one."""
    before, after = rule.rules
    whole = every_of(rule.letters, tapes, [rough_turned(rough_broken(before, tapes)), rough_broken(after, tapes)])
    return any_of(rule.letters, tapes, [whole] + lifts(rule, tapes - 1, tapes))


def _few_rough(rule, tapes):
    """The rows that break the argument: they have few enough runs."""
    return rough_broken(rule.rules[0], tapes)


def _carried_rough(rule, tapes):
    """The rows for which the program writes, for all runs or for fewer, what breaks the argument."""
    # where the program drops a run, fewer runs must break the rule
    whole = rough_behind(rule.program, rough_broken(rule.rules[0], tapes))
    return any_of(rule.letters, tapes, [trimmed(whole)] + lifts(rule, tapes - 1, tapes))


def _led_on(rough, standing, codes):
    """The standing to which columns with some codes lead from a standing; the code 0 is that of no column."""
    for code in codes:
        if code > 0:
            standing = rough.rows[standing][rough.classes[code - 1]]
    return standing


def _beside_runs(rough, runs):
    """The machine of the rows that a machine takes with some runs at further tapes behind those of the row."""
    letters = rough.letters
    tapes = rough.tapes - len(runs)
    codes = [column_place(letters, column) + 1 for column in columns_of(runs)] + [0]
    span = many_columns(letters, len(runs)) + 1
    found = []
    for place in range(many_columns(letters, tapes)):
        found.append(tuple([rough.classes[(place + 1) * span + code - 1] for code in codes]))
    classes, firsts = numbered(found)
    kinds = [found[first] for first in firsts]
    last = len(codes) - 1

    # a key is a standing and how many letters of the runs were read; behind all of them they have `#`
    def nexts_of(key):
        row = rough.rows[key[0]]
        after = min(key[1] + 1, last)
        return [(row[kind[key[1]]], after) for kind in kinds]

    keys, rows = walked((0, 0), nexts_of)
    ends = [rough.ends[_led_on(rough, standing, codes[at:])] for standing, at in keys]
    return trimmed(Rough(letters, tapes, classes, rows, ends))


def _beside_rough(rule, tapes):
    """The rows that break the argument together with some of the told runs."""
    # as many told runs count beside those of the row as the number of the argument lets
    argument = rule.rules[0]
    told = min(argument.number - tapes, len(rule.lot))
    found = rough_broken(argument, tapes + told)
    if told == 0:
        parts = [found]
    else:
        parts = [_beside_runs(found, [rule.lot[at] for at in some]) for some in subsets(len(rule.lot), told)]
    return any_of(rule.letters, tapes, parts + lifts(rule, tapes - 1, tapes))


ROUGH = {
    "none": _none_rough, "each": _each_rough, "bar": _bar_rough, "same": _same_rough, "led": _led_rough,
    "both": _both_rough, "either": _either_rough, "gives": _gives_rough, "few": _few_rough, "carried": _carried_rough,
    "beside": _beside_rough,
}


def _rough(rule, tapes):
    """As rough_broken, worked out anew."""
    if tapes > rule.number:
        return any_of(rule.letters, tapes, lifts(rule, rule.number, tapes))
    work = ROUGH[rule.kind]
    return work(rule, tapes)


def rough_broken(rule, tapes):
    """The rough machine of the broken rows of a rule for some tapes, for which there must be room."""
    if tapes not in rule.rough_found:
        rule.rough_found[tapes] = _rough(rule, tapes)
    return rule.rough_found[tapes]


def row_breaks(rule, row):
    """Whether the lot of a row breaks a rule, for which there must be room for so many tapes."""
    rough = rough_broken(rule, len(row))
    codes = [column_place(rule.letters, column) + 1 for column in columns_of(row)]
    return rough.ends[_led_on(rough, 0, codes)]


def broken_machine(rule, tapes):
    """As broken_rows, for tapes for which there is room."""
    if tapes not in rule.least_found:
        rule.least_found[tapes] = least_from(rough_broken(rule, tapes))
    return rule.least_found[tapes]


def broken_rows(rule, tapes):
    """The least machine of the rows whose lots break a rule."""
    if tapes < 1:
        raise BadNumber(tapes)
    check_room(rule, tapes)
    return broken_machine(rule, tapes)


def kept_rows(rule, tapes):
    """The least machine of the rows whose lots keep a rule."""
    return turned(broken_rows(rule, tapes))
