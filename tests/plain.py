"""What the tests share: plain readings of the document, against which the program is held."""

import inspect
import itertools
import random
import unittest

from fewbreak.besides import beside
from fewbreak.combine import joined, no_row, only_row
from fewbreak.errors import BreaksBeside
from fewbreak.letters import Letters, read_letters
from fewbreak.machines import Machine
from fewbreak.programs import Program
from fewbreak.rules import all_rule, bar, both, carried, each, either, few, gives, led, none_rule, same

S = read_letters("s:01")
ONE = read_letters("s:0")
THREE = read_letters("s:012")
IO = read_letters("in:01 out:01")
SIXTEEN = read_letters("a:01 b:01 c:01 d:01")

ROWS = {}
DELAY = "program\nstanding a end\n0? =0 a\n1? =0 b\nstanding b end\n0? =1 a\n1? =1 b\n"


class Case(unittest.TestCase):
    def fails(self, error, values, call, *args, **more):
        """The call raises just this error, whose attributes have these values, in the order of its parameters."""
        with self.assertRaises(error) as caught:
            call(*args, **more)
        self.assertIs(type(caught.exception), error)
        names = list(inspect.signature(error.__init__).parameters)[1:]
        self.assertEqual(tuple(getattr(caught.exception, name) for name in names), values)
        self.assertEqual(caught.exception.code, error.__name__)

    def lacks_faults(self, machine):
        """A machine is least, read straight from the document, and has the name of made machines."""
        self.assertEqual(least_fault(machine), None)
        self.assertEqual(machine.name, "made")


def runs(letters, length):
    """All runs with at most so many letters, in order."""
    found = []
    for many in range(length + 1):
        found.extend(itertools.product(letters.listed(), repeat=many))
    return found


def columns_plain(letters, tapes):
    items = ["#"] + letters.listed()
    return [column for column in itertools.product(items, repeat=tapes) if set(column) != {"#"}]


def row_columns(row):
    """The columns of a row."""
    return list(itertools.zip_longest(*row, fillvalue="#"))


def rows(letters, tapes, length):
    """All rows with at most so many columns, in order."""
    key = (str(letters), tapes, length)
    if key not in ROWS:
        ROWS[key] = _rows(letters, tapes, length)
    return [list(row) for row in ROWS[key]]


def _rows(letters, tapes, length):
    items = ["#"] + letters.listed()

    def key(row):
        found = row_columns(row)
        return len(found), [[items.index(item) for item in column] for column in found]

    return sorted(itertools.product(runs(letters, length), repeat=tapes), key=key)


def taken(machine, length):
    """The rows that a machine takes, found by its table alone."""
    places = {column: place for place, column in enumerate(columns_plain(machine.letters, machine.tapes))}
    found = []
    for row in rows(machine.letters, machine.tapes, length):
        standing = 0
        for column in row_columns(row):
            standing = machine.rows[standing][places[column]]
        if machine.ends[standing]:
            found.append(row)
    return found


def least_fault(machine):
    """The first of the four demands on least machines that a machine does not meet."""
    columns = columns_plain(machine.letters, machine.tapes)
    many = machine.standings
    if _has_unfilled_end(machine, columns):
        return "unfilled"
    order = [0]
    for standing in order:
        for after in machine.rows[standing]:
            if after not in order:
                order.append(after)
    if sorted(order) != list(range(many)):
        return "unreached"
    apart = {(a, b) for a in range(many) for b in range(many) if machine.ends[a] != machine.ends[b]}
    grows = True
    while grows:
        grows = False
        for a, b in itertools.product(range(many), repeat=2):
            nexts = zip(machine.rows[a], machine.rows[b])
            if (a, b) not in apart and any(pair in apart for pair in nexts):
                apart.add((a, b))
                grows = True
    if len(apart) != many * many - many:
        return "doubled"
    return None if order == list(range(many)) else "order"


def _has_unfilled_end(machine, columns):
    """Whether a list of columns that is not filled leads to an end."""
    seen = {(0, frozenset(), True)}
    waiting = list(seen)
    while waiting:
        standing, ended, filled = waiting.pop()
        if machine.ends[standing] and not filled:
            return True
        for place, column in enumerate(columns):
            now = frozenset(tape for tape, item in enumerate(column) if item == "#")
            key = (machine.rows[standing][place], ended | now, filled and ended <= now)
            if key not in seen:
                seen.add(key)
                waiting.append(key)
    return False


def some_machine(letters, tapes, standings, seed):
    """A machine without order or meaning, the same one for each seed."""
    source = random.Random(seed)
    many = len(columns_plain(letters, tapes))
    table = [[source.randrange(standings) for _ in range(many)] for _ in range(standings)]
    ends = [source.random() < 0.4 for _ in range(standings)]
    return Machine(letters, tapes, table, ends, machine_name="some")


def some_program(read, write, standings, seed, holes=0.2):
    """A program without order or meaning, the same one for each seed."""
    source = random.Random(seed)
    table = []
    for _ in range(standings):
        lines = [(source.choice(write.listed()), source.randrange(standings)) for _ in read.listed()]
        table.append([None if source.random() < holes else line for line in lines])
    ends = [source.random() < 0.7 for _ in range(standings)]
    return Program(read, write, table, ends, program_name="some")


def parts(lot):
    """All parts of a lot, those with fewer runs first, and then by the indexes of their runs."""
    return [part for size in range(len(lot) + 1) for part in itertools.combinations(lot, size)]


def keeps(rule, lot):
    """Whether a lot keeps a rule, read straight from the table of the document."""
    lot = sorted(set(lot))
    kind = rule.kind
    if kind == "all":
        return True
    if kind == "none":
        return not lot
    if kind == "each":
        return all(rule.machine.takes([run]) for run in lot)
    if kind == "bar":
        return not any(rule.machine.takes(list(row)) for row in itertools.product(lot, repeat=rule.machine.tapes))
    if kind == "same":
        return len({tuple(rule.letters.seen(letter, rule.before) for letter in run) for run in lot}) < 2
    if kind == "led":
        return not any(led_apart(rule, one, other) for one in lot for other in lot)
    if kind == "both":
        return all(keeps(argument, lot) for argument in rule.rules)
    if kind == "either":
        return any(keeps(argument, lot) for argument in rule.rules)
    if kind == "gives":
        return all(keeps(rule.rules[1], part) for part in parts(lot) if keeps(rule.rules[0], part))
    if kind == "few":
        return all(keeps(rule.rules[0], part) for part in parts(lot) if len(part) <= rule.most)
    if kind == "carried":
        return keeps(rule.rules[0], [run for run in map(rule.program.written, lot) if run is not None])
    return keeps(rule.rules[0], lot + list(rule.lot))


def led_apart(rule, one, other):
    """Whether two runs break a led rule at some index."""
    for at in range(min(len(one), len(other))):
        early = [rule.letters.seen(letter, rule.before) for letter in one[:at + 1]]
        late = [rule.letters.seen(letter, rule.before) for letter in other[:at + 1]]
        if early == late and rule.letters.seen(one[at], rule.after) != rule.letters.seen(other[at], rule.after):
            return True
    return False


def least_broken_parts(rule, lot):
    """The parts of a lot, in order, that break a rule, and of which no smaller part does."""
    broken = [part for part in parts(lot) if not keeps(rule, part)]
    return [list(part) for part in broken if not any(set(other) < set(part) for other in broken)]


def named_parts(letters, source):
    return [name for name in letters.names if source.random() < 0.6]


def some_rule(letters, seed, deep=2, most=3, tapes=2):
    """A rule without order or meaning, the same one for each seed, and with a number of at most `most`."""
    source = random.Random(seed)
    while True:
        rule = _some_rule(letters, source, deep, tapes)
        if rule.number <= most and all(one.number <= most for one in within(rule)) and rule.told_runs <= 4:
            return rule


def within(rule):
    """The rules within a rule."""
    return [rule] + [one for argument in rule.rules for one in within(argument)]


def _some_rule(letters, source, deep, tapes):
    if deep == 0 or source.random() < 0.15:
        kind = source.choice(["none", "each", "bar", "bar", "same", "same", "led", "led", "all"])
        if kind == "all":
            return all_rule(letters)
        if kind == "none":
            return none_rule(letters)
        if kind == "same":
            return same(letters, *named_parts(letters, source))
        if kind == "led":
            return led(letters, named_parts(letters, source), named_parts(letters, source))
        many = 1 if kind == "each" else source.randint(1, tapes)
        # the broken rows of bars of larger machines need very many standings
        machine = some_machine(letters, many, source.randint(1, 3 if many == 1 else 2), source.random())
        return each(machine) if kind == "each" else bar(machine)
    kind = source.choice(["both", "either", "gives", "gives", "few", "carried", "beside"])
    if kind == "carried":
        write = source.choice([letters, Letters(("w", "01")), Letters(("w", "012")), Letters(("v", "01"), ("w", "01"))])
        program = some_program(letters, write, source.randint(1, 2), source.random(), holes=0.1)
        return carried(program, _some_rule(write, source, deep - 1, tapes))
    arguments = [_some_rule(letters, source, deep - 1, tapes) for _ in range(2)]
    if kind == "both":
        return both(letters, *arguments)
    if kind == "either":
        return either(*arguments)
    if kind == "gives":
        return gives(*arguments)
    if kind == "few":
        return few(source.randint(0, 3), arguments[0])
    lot = source.sample(runs(letters, 2), source.randint(0, 2))
    try:
        return beside(lot, arguments[0])
    except BreaksBeside:
        return arguments[0]


def against(rules, wish):
    """Whether rows, by their lots, keep rules and break a wish; what was found is remembered."""
    known = {}

    def demand(row):
        lot = frozenset(row)
        if lot not in known:
            known[lot] = not keeps(wish, lot) and all(keeps(rule, lot) for rule in rules)
        return known[lot]

    return demand


def first_lot(letters, demand, most, length):
    """The first lot that meets a demand, with at most so many runs and letters of a run; None without one."""
    for longest in range(length + 1):
        for many in range(1, most + 1):
            for row in rows(letters, many, longest):
                if max(map(len, row)) == longest and len(set(row)) == many and demand(row):
                    return row
    return None


# how long the runs of lots that are searched one by one may be, by the number of letters
LONGEST = {1: 4, 2: 2, 3: 1, 4: 1}


class LotsCase(Case):
    def is_first(self, found, letters, demand, most):
        """What was found is the first lot that meets a demand, as far as all lots of short runs tell."""
        length = LONGEST[len(letters)]
        wish = first_lot(letters, demand, most, length)
        if found is None or max(map(len, found)) > length:
            self.assertIsNone(wish)
        else:
            self.assertEqual(found, wish)
        if found is not None:
            self.assertIs(type(found), list)
            self.assertTrue(demand(found))


def machine_of(letters, lot):
    """The machine of one tape that takes just the runs of a told lot."""
    found = no_row(letters, 1)
    for run in lot:
        found = joined(found, only_row(letters, [run]))
    return found


def some_lot(letters, source, most, length=2):
    """At most so many short runs, in any order."""
    held = runs(letters, length)
    return source.sample(held, min(len(held), source.randint(0, most)))


def in_order(letters, lot):
    """The runs of a lot in the order of the document, without duplicates."""
    return sorted(set(lot), key=lambda run: (len(run), [letters.listed().index(letter) for letter in run]))


def greatest_parts(rule, lot):
    """The greatest parts of a told lot, which is in order, that keep a rule, in the order of the document."""
    kept = [part for part in parts(lot) if keeps(rule, part)]
    found = [part for part in kept if not any(set(part) < set(other) for other in kept)]
    return [list(part) for part in sorted(found, key=lambda part: (-len(part), [lot.index(run) for run in part]))]


def five(letters):
    """A rule with the number 5."""
    return either(same(letters), same(letters), none_rule(letters))


def zero(letters):
    """A rule with the number 0 that has no room for any tapes."""
    return gives(beside([], five(letters)), all_rule(letters))
