"""Whether rules follow to a wish, and the first lots that tell that they do not."""

from fewbreak.broken import check_room, lifts, rough_broken
from fewbreak.least import aligned, filled_only, rough_turned
from fewbreak.meaning import lot_keeps
from fewbreak.rules import check_letters
from fewbreak.runs import told_lot
from fewbreak.sides import column_at, columns_of, runs_of
from fewbreak.walks import ends_ahead


def _way_back(came, key):
    """The list of the steps that led to a key."""
    found = []
    while came[key] is not None:
        key, step = came[key]
        found.append(step)
    return found[::-1]


def _first_way(tables, ends, most):
    """The first list of steps that leads some standings side by side, from 0 on, to ends alone.

    A shorter list is first, then one with smaller steps; None if there is none, or none with at most so many steps.
    """
    hopes = [ends_ahead(table, some) for table, some in zip(tables, ends)]

    def hold(flags, standings):
        return all([some[standing] for some, standing in zip(flags, standings)])

    start = (0,) * len(tables)
    came = {start: None}
    level = [start] if hold(hopes, start) else []
    length = 0
    while level:
        for key in level:
            if hold(ends, key):
                return _way_back(came, key)
        if length == most:
            return None
        after = []
        for key in level:
            rows = [table[standing] for table, standing in zip(tables, key)]
            for step, target in enumerate(zip(*rows)):
                if target not in came:
                    came[target] = (key, step)
                    if hold(hopes, target):
                        after.append(target)
        level = after
        length += 1
    return None


def first_taken(parts, most=None):
    """The first row that all of some rough machines take; None if there is none, or none with so few columns."""
    letters = parts[0].letters
    tapes = parts[0].tapes
    whole = [filled_only(letters, tapes)] + parts
    _, firsts, tables = aligned(whole)
    way = _first_way(tables, [part.ends for part in whole], most)
    if way is None:
        return None
    return runs_of([column_at(letters, tapes, firsts[step]) for step in way], tapes)


def rank_from(rule, most):
    """The rank of a rule, which is at most so great; for so many tapes there must be room."""
    for tapes in range(most, 0, -1):
        fewer = [rough_turned(part) for part in lifts(rule, tapes - 1, tapes)]
        if first_taken([rough_broken(rule, tapes)] + fewer) is not None:
            return tapes
    return 0


def few_enough(rule):
    """The rank of a rule for whose number there is room."""
    if rule.rank_found is None:
        rule.rank_found = rank_from(rule, rule.number)
    return rule.rank_found


def many_enough(rule):
    """So many runs that each lot that breaks a rule has a part with no more that breaks it."""
    # the rank is enough, but it is worth its search only where it may save tapes of many columns
    return rule.number if rule.number < 3 else few_enough(rule)


def _first_row_against(rules, wish, tapes, most=None):
    """The first row, with at most so many columns, whose lot keeps some rules and breaks a wish; None without one."""
    parts = [rough_turned(rough_broken(rule, tapes)) for rule in rules]
    return first_taken([rough_broken(wish, tapes)] + parts, most)


def first_against(rules, wish):
    """The first lot that keeps some rules and breaks a wish, None without one."""
    tapes = many_enough(wish)
    if tapes == 0:
        return None
    row = _first_row_against(rules, wish, tapes)
    if row is None:
        return None
    # rows with runs that stand twice show how short the longest run can be, and fewer tapes how few runs are enough
    length = len(columns_of(row))
    for fewer in range(1, tapes):
        found = _first_row_against(rules, wish, fewer, length)
        if found is not None:
            return found
    return row


def check_asked(rules, wish):
    """Raises the errors of asking whether rules follow to a wish."""
    check_letters(wish.letters, rules)
    for rule in [wish] + list(rules):
        check_room(rule, wish.number)


def follows(rules, wish):
    """None if rules follow to a wish, otherwise the first lot against it."""
    check_asked(rules, wish)
    return first_against(rules, wish)


def is_against(rules, wish, lot):
    """Whether a told lot keeps all of some rules and breaks a wish, by the plain meaning."""
    check_letters(wish.letters, rules)
    runs = told_lot(wish.letters, lot)
    found = [lot_keeps(rule, runs) for rule in list(rules) + [wish]]
    return all(found[:-1]) and not found[-1]
