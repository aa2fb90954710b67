import unittest

from fewbreak.combine import any_row, no_row, only_row
from fewbreak.errors import TooMany, UnlikeParts, UnlikeTapes
from fewbreak.least import least
from fewbreak.letters import Letters
from fewbreak.looks import behind_each_other, blot, look
from fewbreak.machines import Machine
from fewbreak.passing import behind, passed
from fewbreak.programs import Program
from fewbreak.programtexts import read_program
from plain import Case, DELAY, IO, ONE, S, SIXTEEN, THREE, rows, runs, some_machine, some_program, taken

NINE = Letters(("a", "012345678"))


class BehindTest(Case):
    def against_a_walk(self, program, machine, length):
        found = behind(program, machine)
        self.lacks_faults(found)
        self.assertEqual((found.letters, found.tapes), (program.read, machine.tapes))
        wish = []
        for row in rows(program.read, machine.tapes, length):
            written = [program.written(run) for run in row]
            if None not in written and machine.takes(written):
                wish.append(row)
        self.assertEqual(taken(found, length), wish)

    def test_against_a_walk(self):
        for read, write, tapes, length in ((S, S, 1, 5), (S, THREE, 1, 5), (THREE, S, 1, 4), (S, S, 2, 3),
                                           (THREE, ONE, 2, 2), (ONE, S, 3, 3), (S, ONE, 3, 2), (ONE, ONE, 4, 2)):
            for seed in range(6):
                program = some_program(read, write, 3, seed, holes=0.15)
                self.against_a_walk(program, some_machine(write, tapes, 3, seed), length)

    def test_all_rows_behind(self):
        # drops the runs with 1 behind 1 and those that end in 1
        program = Program(S, S, [[("0", 0), ("0", 1)], [("0", 0), None]], [True, False])
        for tapes in (1, 2, 3):
            self.against_a_walk(program, any_row(S, tapes), 3 if tapes < 3 else 2)
            self.assertEqual(behind(program, no_row(S, tapes)), no_row(S, tapes))

    def test_end_of_each_run_counts(self):
        # the run at a tape is dropped where it ends, although the others go on
        program = Program(S, S, [[("0", 0), ("1", 1)], [("0", 0), ("1", 1)]], [True, False])
        machine = behind(program, any_row(S, 2))
        self.assertFalse(machine.takes([("1",), ("0", "0")]))
        self.assertTrue(machine.takes([("0",), ("1", "0")]))
        self.assertFalse(machine.takes([("0",), ("0", "1")]))

    def test_dropped_empty_run(self):
        program = Program(S, S, [[("0", 1), ("1", 1)], [("0", 1), ("1", 1)]], [False, True])
        machine = behind(program, any_row(S, 2))
        self.assertFalse(machine.takes([(), ("0",)]))
        self.assertTrue(machine.takes([("1", "1"), ("0",)]))

    def test_look(self):
        machine = behind(look(IO, ["in"]), only_row(Letters(("in", "01")), [("1",), ()]))
        self.assertEqual(taken(machine, 1), [[("10",), ()], [("11",), ()]])

    def test_behind_behind(self):
        for seed in range(4):
            first, second = some_program(S, THREE, 2, seed), some_program(THREE, S, 2, seed + 9)
            machine = some_machine(S, 2, 3, seed)
            self.assertEqual(behind(first, behind(second, machine)), behind(behind_each_other(first, second), machine))

    def test_unfilled_lists_mean_nothing(self):
        machine = Machine(S, 2, [[0] * 8], [True])
        self.assertEqual(behind(blot(S, "s"), machine), any_row(S, 2))

    def test_errors(self):
        program = some_program(NINE, S, 2, 1)
        self.fails(UnlikeParts, ("s:01", "s:0"), behind, program, some_machine(ONE, 4, 2, 1))
        self.fails(UnlikeParts, ("s:01", "s:10"), behind, program, some_machine(Letters(("s", "10")), 1, 2, 1))
        self.fails(TooMany, ("columns", 10 ** 4 - 1), behind, program, some_machine(S, 4, 2, 1))
        self.fails(TooMany, ("columns", 17 ** 3 - 1), behind, some_program(SIXTEEN, S, 2, 1), some_machine(S, 3, 2, 1))
        self.assertEqual(behind(program, some_machine(S, 3, 2, 1)).tapes, 3)


class PassedTest(Case):
    def test_against_a_walk(self):
        for read, write, length in ((S, S, 6), (S, THREE, 5), (THREE, S, 5), (IO, S, 4), (S, ONE, 8), (ONE, THREE, 4)):
            for seed in range(10):
                program, machine = some_program(read, write, 3, seed), some_machine(read, 1, 4, seed)
                found = passed(program, machine)
                self.lacks_faults(found)
                self.assertEqual((found.letters, found.tapes), (write, 1))
                written = [program.written(run) for run in runs(read, length) if machine.takes([run])]
                self.assertEqual(taken(found, length), [row for row in rows(write, 1, length) if row[0] in written])

    def test_empty_run(self):
        keeps = Program(S, S, [[None, None]], [True])
        drops = Program(S, S, [[None, None]], [False])
        self.assertEqual(passed(keeps, any_row(S, 1)), only_row(S, [()]))
        self.assertEqual(passed(drops, any_row(S, 1)), no_row(S, 1))
        self.assertEqual(passed(keeps, no_row(S, 1)), no_row(S, 1))

    def test_delay(self):
        machine = passed(look(IO, ["out"]), passed(read_program(IO, IO, DELAY), any_row(IO, 1)))
        out = Letters(("out", "01"))
        self.assertEqual(taken(machine, 4), [[run] for run in runs(out, 4) if run[:1] != ("1",)])

    def test_same_rows_that_are_not_least(self):
        machine = Machine(S, 1, [[2, 1], [0, 3], [0, 3], [2, 1]], [False, True, False, True])
        program = some_program(S, THREE, 3, 4)
        self.assertEqual(passed(program, machine), passed(program, least(machine)))

    def test_errors(self):
        program = some_program(S, THREE, 2, 1)
        self.fails(UnlikeParts, ("s:01", "s:012"), passed, program, some_machine(THREE, 2, 2, 1))
        self.fails(UnlikeParts, ("s:01", "s:10"), passed, program, some_machine(Letters(("s", "10")), 1, 2, 1))
        for tapes in (2, 3, 4):
            self.fails(UnlikeTapes, (tapes, 1), passed, program, some_machine(S, tapes, 2, 1))


if __name__ == "__main__":
    unittest.main()
