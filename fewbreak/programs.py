"""Programs, which read runs and write runs."""

from fewbreak.errors import BadName, BadNumber, BadRun, BadTable
from fewbreak.letters import is_name
from fewbreak.machines import check_standings
from fewbreak.runs import is_run, told_lot


def _is_line(write, line, many):
    """Whether an item is None or a pair of a written letter and one of so many standings."""
    if line is None:
        return True
    if not isinstance(line, (tuple, list)) or len(line) != 2:
        return False
    letter, after = line
    if not isinstance(letter, str) or not isinstance(after, int):
        return False
    return write.is_letter(letter) and 0 <= after < many


def _check_lines(read, write, rows):
    """Raises BadTable for the first standing that has not one line, or None, for each read letter."""
    for at, row in enumerate(rows):
        if len(row) != len(read) or not all([_is_line(write, line, len(rows)) for line in row]):
            raise BadTable(at)


class Program:
    """A program. It never changes.

    The lines, by the places of the read letters, and the ends are the tuples `rows` and `ends`.
    """

    def __init__(self, read, write, rows, ends, *, program_name="made"):
        check_standings(rows, ends)
        _check_lines(read, write, rows)
        if not is_name(program_name):
            raise BadName(program_name)
        self.read = read
        self.write = write
        self.name = program_name
        self.rows = tuple([tuple([None if line is None else tuple(line) for line in row]) for row in rows])
        self.ends = tuple([bool(end) for end in ends])

    @property
    def standings(self):
        """The number of the standings."""
        return len(self.rows)

    def line_of(self, standing, letter):
        """The line of a standing for a read letter, a pair or None."""
        if not 0 <= standing < len(self.rows):
            raise BadNumber(standing)
        return self.rows[standing][self.read.place(letter)]

    def is_end(self, standing):
        """Whether a standing is an end."""
        if not 0 <= standing < len(self.rows):
            raise BadNumber(standing)
        return self.ends[standing]

    def written(self, run):
        """The run that the program writes for a run, None for a run that it drops."""
        if not is_run(self.read, run):
            raise BadRun(0)
        found = []
        standing = 0
        for letter in run:
            line = self.rows[standing][self.read.place(letter)]
            if line is None:
                return None
            found.append(line[0])
            standing = line[1]
        if not self.ends[standing]:
            return None
        return tuple(found)

    def written_lot(self, lot):
        """The told lot of the runs that the program writes for the runs of a told lot."""
        found = [self.written(run) for run in told_lot(self.read, lot)]
        return told_lot(self.write, [run for run in found if run is not None])

    def __eq__(self, other):
        return (isinstance(other, Program) and self.read == other.read and self.write == other.write
                and self.rows == other.rows and self.ends == other.ends)

    def __len__(self):
        return len(self.rows)

    def __repr__(self):
        return f"Program({len(self.rows)} standings)"
