"""What the tests share: plain readings of the document, against which the program is held."""

import inspect
import itertools
import random
import unittest

from fewbreak.letters import read_letters
from fewbreak.machines import Machine
from fewbreak.programs import Program

S = read_letters("s:01")
ONE = read_letters("s:0")
THREE = read_letters("s:012")
IO = read_letters("in:01 out:01")
SIXTEEN = read_letters("a:01 b:01 c:01 d:01")

DELAY = "program\nstanding a end\n0? =0 a\n1? =0 b\nstanding b end\n0? =1 a\n1? =1 b\n"


class Case(unittest.TestCase):
    def fails(self, error, values, call, *args, **more):
        """The call raises just this error, whose attributes have these values, in the order of its parameters."""
        with self.assertRaises(error) as caught:
            call(*args, **more)
        self.assertIs(type(caught.exception), error)
        names = list(inspect.signature(error.__init__).parameters)[1:]
        self.assertEqual(tuple(getattr(caught.exception, name) for name in names), values)
        self.assertEqual(caught.exception.code, error.__name__)

    def lacks_faults(self, machine):
        """A machine is least, read straight from the document, and has the name of made machines."""
        self.assertEqual(least_fault(machine), None)
        self.assertEqual(machine.name, "made")


def runs(letters, length):
    """All runs with at most so many letters, in order."""
    found = []
    for many in range(length + 1):
        found.extend(itertools.product(letters.listed(), repeat=many))
    return found


def columns_plain(letters, tapes):
    items = ["#"] + letters.listed()
    return [column for column in itertools.product(items, repeat=tapes) if set(column) != {"#"}]


def row_columns(row):
    """The columns of a row."""
    return list(itertools.zip_longest(*row, fillvalue="#"))


def rows(letters, tapes, length):
    """All rows with at most so many columns, in order."""
    items = ["#"] + letters.listed()

    def key(row):
        found = row_columns(row)
        return len(found), [[items.index(item) for item in column] for column in found]

    return sorted([list(row) for row in itertools.product(runs(letters, length), repeat=tapes)], key=key)


def taken(machine, length):
    """The rows that a machine takes, found by its table alone."""
    places = {column: place for place, column in enumerate(columns_plain(machine.letters, machine.tapes))}
    found = []
    for row in rows(machine.letters, machine.tapes, length):
        standing = 0
        for column in row_columns(row):
            standing = machine.rows[standing][places[column]]
        if machine.ends[standing]:
            found.append(row)
    return found


def least_fault(machine):
    """The first of the four demands on least machines that a machine does not meet."""
    columns = columns_plain(machine.letters, machine.tapes)
    many = machine.standings
    if _has_unfilled_end(machine, columns):
        return "unfilled"
    order = [0]
    for standing in order:
        for after in machine.rows[standing]:
            if after not in order:
                order.append(after)
    if sorted(order) != list(range(many)):
        return "unreached"
    apart = {(a, b) for a in range(many) for b in range(many) if machine.ends[a] != machine.ends[b]}
    grows = True
    while grows:
        grows = False
        for a, b in itertools.product(range(many), repeat=2):
            nexts = zip(machine.rows[a], machine.rows[b])
            if (a, b) not in apart and any(pair in apart for pair in nexts):
                apart.add((a, b))
                grows = True
    if len(apart) != many * many - many:
        return "doubled"
    return None if order == list(range(many)) else "order"


def _has_unfilled_end(machine, columns):
    """Whether a list of columns that is not filled leads to an end."""
    seen = {(0, frozenset(), True)}
    waiting = list(seen)
    while waiting:
        standing, ended, filled = waiting.pop()
        if machine.ends[standing] and not filled:
            return True
        for place, column in enumerate(columns):
            now = frozenset(tape for tape, item in enumerate(column) if item == "#")
            key = (machine.rows[standing][place], ended | now, filled and ended <= now)
            if key not in seen:
                seen.add(key)
                waiting.append(key)
    return False


def some_machine(letters, tapes, standings, seed):
    """A machine without order or meaning, the same one for each seed."""
    source = random.Random(seed)
    many = len(columns_plain(letters, tapes))
    table = [[source.randrange(standings) for _ in range(many)] for _ in range(standings)]
    ends = [source.random() < 0.4 for _ in range(standings)]
    return Machine(letters, tapes, table, ends, machine_name="some")


def some_program(read, write, standings, seed, holes=0.2):
    """A program without order or meaning, the same one for each seed."""
    source = random.Random(seed)
    table = []
    for _ in range(standings):
        lines = [(source.choice(write.listed()), source.randrange(standings)) for _ in read.listed()]
        table.append([None if source.random() < holes else line for line in lines])
    ends = [source.random() < 0.7 for _ in range(standings)]
    return Program(read, write, table, ends, program_name="some")
