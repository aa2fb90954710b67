"""Tables, which show that rules follow to a wish."""

from fewbreak.broken import broken_machine
from fewbreak.errors import NotSo
from fewbreak.follows import check_asked, first_against
from fewbreak.least import aligned, rough_of
from fewbreak.walks import walked


def _machines(rules, wish):
    """The least machines of the broken rows of some rules and, at the end, of a wish with a number above 0."""
    return [broken_machine(rule, wish.number) for rule in list(rules) + [wish]]


def _tables(machines):
    """For each of some machines its rows, by classes of columns that they share."""
    found = aligned([rough_of(machine) for machine in machines])
    return found[2]


def _nexts(tables, key):
    """The list of the tuples of next standings of a tuple of standings, by the classes of the columns."""
    rows = [nexts[standing] for nexts, standing in zip(tables, key)]
    return list(zip(*rows))


def table_or_lot(rules, wish):
    """The pair of the table of rules that follow to a wish and None, or of None and the first lot against it."""
    check_asked(rules, wish)
    lot = first_against(rules, wish)
    if lot is not None:
        return None, lot
    if wish.number == 0:
        return [], None
    tables = _tables(_machines(rules, wish))
    keys, _ = walked((0,) * len(tables), lambda key: _nexts(tables, key))
    return sorted(keys), None


def table(rules, wish):
    """The ascending list of the tuples of standings that are reached side by side, for rules that follow to a wish."""
    found, lot = table_or_lot(rules, wish)
    if lot is not None:
        raise NotSo(lot)
    return found


def _fits(machines, key):
    """Whether a tuple has one standing of each machine."""
    if len(key) != len(machines):
        return False
    return all([0 <= standing < machine.standings for standing, machine in zip(key, machines)])


def _first_fault(machines, rows):
    """The first fault of a list of tuples, for a wish with a number above 0; None if there is none."""
    held = {tuple(row): True for row in rows}
    if (0,) * len(machines) not in held:
        return -1, "start"
    tables = _tables(machines)
    for at, row in enumerate(rows):
        if not _fits(machines, row):
            return at, "shape"
        ends = [machine.is_end(standing) for standing, machine in zip(row, machines)]
        if ends[-1] and True not in ends[:-1]:
            return at, "ends"
        if not all([after in held for after in _nexts(tables, row)]):
            return at, "closed"
    return None


def table_fault(rules, wish, rows):
    """None if a list of tuples of standings is right as a table, otherwise the first fault."""
    check_asked(rules, wish)
    if wish.number == 0:
        return (0, "shape") if rows else None
    return _first_fault(_machines(rules, wish), rows)
