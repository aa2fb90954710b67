import itertools
import unittest

from fewbreak.errors import BadName, BadNumber, BadRun, BadTable, TooMany
from fewbreak.letters import Letters
from fewbreak.machines import Machine
from fewbreak.programs import Program
from fewbreak.programtexts import read_program
from plain import Case, DELAY, IO, ONE, S, THREE, runs, some_program

# reads 01 and writes 012; drops runs behind 11, and those that end behind a single 1
HOLES = Program(S, THREE, [[("0", 0), ("1", 1)], [("2", 0), None]], [True, False])


def written_plain(program, run):
    standing, found = 0, ()
    for letter in run:
        line = program.rows[standing][program.read.listed().index(letter)]
        if line is None:
            return None
        found, standing = found + (line[0],), line[1]
    return found if program.ends[standing] else None


class ConstructorTest(Case):
    def test_attributes(self):
        self.assertEqual((HOLES.read, HOLES.write, HOLES.name, HOLES.standings), (S, THREE, "made", 2))
        named = Program(read=S, write=S, rows=[[None, None]], ends=[False], program_name="clerk")
        self.assertEqual(named.name, "clerk")
        with self.assertRaises(TypeError):
            Program(S, S, [[None, None]], [False], "clerk")

    def test_standings(self):
        self.fails(TooMany, ("standings", 20001), Program, ONE, ONE, [[7]] * 20001, [], program_name="")
        large = Program(ONE, ONE, [[("0", k)] for k in range(20000)], [True] * 20000)
        self.assertEqual(large.standings, 20000)

    def test_table_length(self):
        self.fails(BadTable, (-1,), Program, S, S, [], [], program_name="")
        self.fails(BadTable, (-1,), Program, S, S, [[None]], [True, True], program_name="")
        self.fails(BadTable, (-1,), Program, S, S, [[None, None]], [])

    def test_table_rows(self):
        fine = [None, ("0", 1)]
        for wrong in ([], [None], [None] * 3, [None, ("2", 0)], [("", 0), None], [("00", 0), None], [None, ("0", 2)],
                      [None, ("0", -1)], [None, ("#", 0)], [("0",), None], [("0", 0, 0), None], [(), None],
                      [None, (None, 0)], [None, ("0", None)], [None, (0, "0")], [None, "00"], [None, 0]):
            self.fails(BadTable, (0,), Program, S, S, [wrong, [None]], [True, True], program_name="")
            self.fails(BadTable, (1,), Program, S, S, [fine, wrong], [True, True], program_name="")

    def test_written_letters_count(self):
        self.assertEqual(Program(S, THREE, [[("2", 0), None]], [True]).line_of(0, "0"), ("2", 0))
        self.fails(BadTable, (0,), Program, THREE, S, [[None, None, ("2", 0)]], [True])
        self.fails(BadTable, (0,), Program, THREE, S, [[None, None]], [True])

    def test_name(self):
        for name in ("", "A", "abcdefg", "a1"):
            self.fails(BadName, (name,), Program, S, S, [[None, None]], [True], program_name=name)

    def test_copies(self):
        table, ends = [[("0", 0), ("1", 1)], [("2", 0), None]], [True, False]
        program = Program(S, THREE, table, ends)
        table[0][0] = None
        table.append([None])
        ends[0] = False
        ends.append(True)
        self.assertEqual(program, HOLES)
        self.assertEqual(program.written(("0",)), ("0",))


class ReadingTest(Case):
    def test_line_of(self):
        self.assertEqual(HOLES.line_of(0, "0"), ("0", 0))
        self.assertEqual(HOLES.line_of(0, "1"), ("1", 1))
        self.assertEqual(HOLES.line_of(1, "0"), ("2", 0))
        self.assertIsNone(HOLES.line_of(1, "1"))
        self.assertIs(type(HOLES.line_of(1, "0")), tuple)

    def test_line_of_errors(self):
        for standing in (-1, 2):
            self.fails(BadNumber, (standing,), HOLES.line_of, standing, "2")
        for letter in ("2", "", "00", "#"):
            self.fails(BadNumber, (letter,), HOLES.line_of, 1, letter)

    def test_is_end(self):
        self.assertIs(HOLES.is_end(0), True)
        self.assertIs(HOLES.is_end(1), False)
        for standing in (-1, 2):
            self.fails(BadNumber, (standing,), HOLES.is_end, standing)

    def test_written(self):
        self.assertEqual(HOLES.written(()), ())
        self.assertEqual(HOLES.written(("0", "1", "0")), ("0", "1", "2"))
        self.assertIsNone(HOLES.written(("1", "1", "0")))
        self.assertIsNone(HOLES.written(("0", "1")))
        self.assertIsNone(Program(S, S, [[("0", 0), ("1", 0)]], [False]).written(()))
        for seed in range(10):
            program = some_program(S, THREE, 4, seed)
            for run in runs(S, 5):
                self.assertEqual(program.written(run), written_plain(program, run))

    def test_written_errors(self):
        for run in (("2",), ("1", "1", "x"), ("",)):
            self.fails(BadRun, (0,), HOLES.written, run)

    def test_delay(self):
        delay = read_program(IO, IO, DELAY)
        for bits in itertools.product("01", repeat=5):
            for outs in itertools.product("01", repeat=5):
                run = tuple(one + other for one, other in zip(bits, outs))
                wish = tuple(one + before for one, before in zip(bits, ("0",) + bits))
                self.assertEqual(delay.written(run), wish)

    def test_written_lot(self):
        self.assertEqual(HOLES.written_lot([("1", "1"), ("1", "0"), ("0",), (), ("1",), ("0",)]),
                         [(), ("0",), ("1", "2")])
        self.assertEqual(HOLES.written_lot([]), [])
        self.assertEqual(HOLES.written_lot((("1",),)), [])
        blank = Program(S, ONE, [[("0", 0), ("0", 0)]], [True])
        self.assertEqual(blank.written_lot([("1",), ("0",), ("1", "1")]), [("0",), ("0", "0")])

    def test_written_lot_has_the_order_of_the_written_letters(self):
        back = Program(S, Letters(("s", "10")), [[("0", 0), ("1", 0)]], [True])
        self.assertEqual(back.written_lot([("0",), ("1",)]), [("1",), ("0",)])

    def test_written_lot_errors(self):
        self.fails(BadRun, (2,), HOLES.written_lot, [("1", "1"), ("1", "1"), ("2",), ("x",)])
        self.fails(BadRun, (0,), HOLES.written_lot, [("1", "1", "2"), ("0",)])

    def test_equal(self):
        table, ends = [[("0", 0), ("1", 1)], [("2", 0), None]], [True, False]
        self.assertTrue(HOLES == Program(S, THREE, table, ends, program_name="other"))
        others = (
            Program(S, THREE, table, [True, True]),
            Program(S, THREE, [[("0", 0), ("1", 1)], [("2", 0), ("0", 0)]], ends),
            Program(S, THREE, [[("0", 0), ("1", 1)], [("1", 0), None]], ends),
            Program(S, Letters(("s", "0123")), table, ends),
            Program(Letters(("t", "01")), THREE, table, ends),
        )
        for other in others:
            self.assertFalse(HOLES == other)
            self.assertTrue(HOLES != other)
        for other in (None, 2, "Program", Machine(S, 1, [[0, 0]], [True])):
            self.assertFalse(HOLES == other)

    def test_len_and_repr(self):
        self.assertEqual(len(HOLES), 2)
        self.assertEqual(repr(HOLES), "Program(2 standings)")
        self.assertEqual(repr(Program(S, S, [[None, None]], [True])), "Program(1 standings)")


if __name__ == "__main__":
    unittest.main()
