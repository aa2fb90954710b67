import unittest

from fewbreak.combine import any_row, joined, less, met, no_row, only_row, turned
from fewbreak.errors import BadNumber, BadRun, TooMany, UnlikeParts, UnlikeTapes
from fewbreak.least import least
from fewbreak.letters import Letters
from fewbreak.machines import Machine
from plain import Case, IO, ONE, S, SIXTEEN, THREE, rows, some_machine, taken

SIZES = ((ONE, 1, 5, 6), (S, 1, 5, 6), (S, 2, 4, 3), (ONE, 3, 4, 3), (S, 3, 3, 2), (THREE, 2, 3, 2), (ONE, 4, 3, 2))
BACK = Letters(("s", "10"))


class PairsTest(Case):
    def test_against_a_walk(self):
        for letters, tapes, standings, length in SIZES:
            for seed in range(6):
                one = some_machine(letters, tapes, standings, seed)
                other = some_machine(letters, tapes, standings - 1, seed + 100)
                left, right = taken(one, length), taken(other, length)
                for call, wish in ((joined, lambda row: row in left or row in right),
                                   (met, lambda row: row in left and row in right),
                                   (less, lambda row: row in left and row not in right)):
                    found = call(one, other)
                    self.lacks_faults(found)
                    self.assertEqual((found.letters, found.tapes), (letters, tapes))
                    self.assertEqual(taken(found, length), [row for row in rows(letters, tapes, length) if wish(row)])

    def test_with_itself(self):
        for letters, tapes, standings, _ in SIZES:
            machine = some_machine(letters, tapes, standings, 5)
            self.assertEqual(joined(machine, machine), least(machine))
            self.assertEqual(met(machine, machine), least(machine))
            self.assertEqual(less(machine, machine), no_row(letters, tapes))
            self.assertEqual(joined(machine, turned(machine)), any_row(letters, tapes))
            self.assertEqual(met(machine, turned(machine)), no_row(letters, tapes))

    def test_errors(self):
        one, two = some_machine(S, 1, 2, 1), some_machine(S, 2, 2, 1)
        back = some_machine(BACK, 2, 2, 1)
        for call in (joined, met, less):
            self.fails(UnlikeParts, ("s:01", "s:10"), call, one, back)
            self.fails(UnlikeParts, ("s:10", "s:01"), call, back, two)
            self.fails(UnlikeParts, ("in:01 out:01", "s:01"), call, some_machine(IO, 1, 2, 1), one)
            self.fails(UnlikeTapes, (1, 2), call, one, two)
            self.fails(UnlikeTapes, (2, 1), call, two, one)


class TurnedTest(Case):
    def test_against_a_walk(self):
        for letters, tapes, standings, length in SIZES:
            for seed in range(6):
                machine = some_machine(letters, tapes, standings, seed)
                held = taken(machine, length)
                found = turned(machine)
                self.lacks_faults(found)
                self.assertEqual(taken(found, length), [row for row in rows(letters, tapes, length) if row not in held])
                self.assertEqual(turned(found), least(machine))


class RowsTest(Case):
    def test_any_and_none(self):
        for letters, tapes, _, length in SIZES:
            self.assertEqual(taken(any_row(letters, tapes), length), rows(letters, tapes, length))
            self.assertEqual(taken(no_row(letters, tapes), length), [])
            for machine in (any_row(letters, tapes), no_row(letters, tapes)):
                self.lacks_faults(machine)
                self.assertEqual((machine.letters, machine.tapes), (letters, tapes))
        self.assertEqual(any_row(S, 1), Machine(S, 1, [[0, 0]], [True]))
        self.assertEqual(any_row(S, 2).standings, 4)
        self.assertEqual(no_row(IO, 4), Machine(IO, 4, [[0] * 624], [False]))

    def test_only_row(self):
        for letters, tapes in ((ONE, 1), (S, 1), (S, 2), (ONE, 3)):
            for row in rows(letters, tapes, 2):
                machine = only_row(letters, row)
                self.lacks_faults(machine)
                self.assertEqual(machine.tapes, tapes)
                self.assertEqual(taken(machine, 3), [row])
        self.assertTrue(only_row(S, (("0",), ())).takes([("0",), ()]))
        long = [("0", "1") * 20, ("1",)]
        machine = only_row(S, long)
        self.assertTrue(machine.takes(long))
        self.assertEqual(machine.standings, 42)

    def test_errors(self):
        for call in (any_row, no_row):
            self.fails(BadNumber, (0,), call, S, 0)
            self.fails(TooMany, ("tapes", 5), call, SIXTEEN, 5)
            self.fails(TooMany, ("columns", 17 ** 3 - 1), call, SIXTEEN, 3)
        self.fails(BadNumber, (0,), only_row, S, [])
        self.fails(TooMany, ("tapes", 5), only_row, ONE, [("x",)] * 5)
        self.fails(TooMany, ("columns", 17 ** 3 - 1), only_row, SIXTEEN, [("x",)] * 3)
        self.fails(BadRun, (1,), only_row, S, [("0",), ("0", "2"), ("",)])
        self.fails(BadRun, (0,), only_row, S, [("#",)])


if __name__ == "__main__":
    unittest.main()
