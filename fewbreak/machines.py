"""Machines, which take rows or do not take them."""

from fewbreak.errors import BadColumn, BadName, BadNumber, BadRun, BadTable, TooMany, UnlikeTapes
from fewbreak.letters import is_name
from fewbreak.runs import is_run
from fewbreak.sides import check_tapes, column_place, columns_of, many_columns

MOST_STANDINGS = 20000


def check_standings(rows, ends):
    """Raises an error for a wrong number of standings, or of ends for them."""
    if len(rows) > MOST_STANDINGS:
        raise TooMany("standings", len(rows))
    if not rows or len(ends) != len(rows):
        raise BadTable(-1)


def _check_rows(rows, many):
    """Raises BadTable for the first standing that has not one next standing for each of so many columns."""
    for at, row in enumerate(rows):
        if len(row) != many or min(row) < 0 or max(row) >= len(rows):
            raise BadTable(at)


class Machine:
    """A machine. It never changes.

    The next standings, by the places of the columns, and the ends are the tuples `rows` and `ends`.
    """

    def __init__(self, letters, tapes, rows, ends, *, machine_name="made"):
        check_tapes(letters, tapes)
        check_standings(rows, ends)
        _check_rows(rows, many_columns(letters, tapes))
        if not is_name(machine_name):
            raise BadName(machine_name)
        self.letters = letters
        self.tapes = tapes
        self.name = machine_name
        self.rows = tuple([tuple(row) for row in rows])
        self.ends = tuple([bool(end) for end in ends])

    @property
    def standings(self):
        """The number of the standings."""
        return len(self.rows)

    def next_of(self, standing, column):
        """The next standing of a standing for a column."""
        if not 0 <= standing < len(self.rows):
            raise BadNumber(standing)
        if len(column) != self.tapes:
            raise BadColumn(column)
        return self.rows[standing][column_place(self.letters, column)]

    def is_end(self, standing):
        """Whether a standing is an end."""
        if not 0 <= standing < len(self.rows):
            raise BadNumber(standing)
        return self.ends[standing]

    def _led(self, row):
        """The standing to which a row leads that has the right number of runs."""
        standing = 0
        for column in columns_of(row):
            standing = self.rows[standing][column_place(self.letters, column)]
        return standing

    def reached(self, row):
        """The standing to which a row leads."""
        if len(row) != self.tapes:
            raise UnlikeTapes(len(row), self.tapes)
        for at, run in enumerate(row):
            if not is_run(self.letters, run):
                raise BadRun(at)
        return self._led(row)

    def takes(self, row):
        """Whether the machine takes a row."""
        return self.ends[self.reached(row)]

    def named(self, name):
        """The same machine with another name."""
        return Machine(self.letters, self.tapes, self.rows, self.ends, machine_name=name)

    def __contains__(self, row):
        if len(row) != self.tapes or not all([is_run(self.letters, run) for run in row]):
            return False
        return self.ends[self._led(row)]

    def __eq__(self, other):
        return (isinstance(other, Machine) and self.letters == other.letters and self.tapes == other.tapes
                and self.rows == other.rows and self.ends == other.ends)

    def __len__(self):
        return len(self.rows)

    def __repr__(self):
        return f"Machine({self.tapes} tapes, {len(self.rows)} standings)"
