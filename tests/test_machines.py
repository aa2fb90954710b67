import unittest

from fewbreak.errors import BadColumn, BadName, BadNumber, BadRun, BadTable, TooMany, UnlikeTapes
from fewbreak.letters import Letters
from fewbreak.machines import Machine
from fewbreak.programs import Program
from plain import Case, IO, ONE, S, SIXTEEN, columns_plain, rows, some_machine, taken

ENDS_IN_ONE = Machine(S, 1, [[0, 1], [0, 1]], [False, True])
TEN = Letters(("a", "0123456789"))


class ConstructorTest(Case):
    def test_attributes(self):
        letters = Letters(("s", "01"))
        machine = Machine(letters, 2, [[0] * 8], [True], machine_name="clerk")
        self.assertEqual((machine.letters, machine.tapes, machine.name), (S, 2, "clerk"))
        self.assertEqual(machine.standings, 1)
        self.assertEqual(Machine(S, 1, [[0, 0]], [True]).name, "made")
        self.assertEqual(Machine(letters=S, tapes=1, rows=[[0, 0]], ends=[True]).tapes, 1)

    def test_name_is_keyword_only(self):
        with self.assertRaises(TypeError):
            Machine(S, 1, [[0, 0]], [True], "clerk")

    def test_tapes(self):
        self.fails(BadNumber, (0,), Machine, S, 0, [], [], machine_name="")
        self.fails(TooMany, ("tapes", 5), Machine, ONE, 5, [], [])
        self.fails(TooMany, ("columns", 11 ** 3 - 1), Machine, TEN, 3, [[0]] * 20001, [])
        self.fails(TooMany, ("columns", 17 ** 3 - 1), Machine, SIXTEEN, 3, [], [])

    def test_standings(self):
        self.fails(TooMany, ("standings", 20001), Machine, ONE, 1, [[0]] * 20001, [False], machine_name="")
        self.fails(TooMany, ("standings", 20002), Machine, ONE, 1, [[]] * 20002, [False] * 20002)
        large = Machine(ONE, 1, [[k] for k in range(20000)], [True] * 20000)
        self.assertEqual(large.standings, 20000)
        self.assertEqual(large.next_of(19999, ("0",)), 19999)

    def test_table_length(self):
        self.fails(BadTable, (-1,), Machine, S, 1, [], [], machine_name="")
        self.fails(BadTable, (-1,), Machine, S, 1, [[0, 0]], [])
        self.fails(BadTable, (-1,), Machine, S, 1, [[0, 7]], [True, True], machine_name="")
        self.fails(BadTable, (-1,), Machine, S, 1, [], [True])

    def test_table_rows(self):
        for wrong in ([], [0], [0, 0, 0], [0, 2], [-1, 0], [0, -2], [2, 0]):
            self.fails(BadTable, (0,), Machine, S, 1, [wrong, [0]], [True, True], machine_name="")
            self.fails(BadTable, (1,), Machine, S, 1, [[1, 0], wrong], [True, True], machine_name="")
        self.fails(BadTable, (0,), Machine, S, 2, [[0] * 9], [True])

    def test_name(self):
        for name in ("", "A", "abcdefg", "a1", "a b"):
            self.fails(BadName, (name,), Machine, S, 1, [[0, 0]], [True], machine_name=name)

    def test_copies(self):
        table, ends = [[0, 1], [0, 1]], [False, True]
        machine = Machine(S, 1, table, ends)
        table[0][1] = 0
        table.append([5])
        ends[1] = False
        ends.clear()
        self.assertEqual(machine, ENDS_IN_ONE)
        self.assertTrue(machine.takes([("0", "1")]))

    def test_tuples(self):
        self.assertEqual(Machine(S, 1, ((0, 1), (0, 1)), (False, True)), ENDS_IN_ONE)


class ReadingTest(Case):
    def test_next_of(self):
        for tapes in (1, 2, 3):
            machine = some_machine(S, tapes, 4, tapes)
            for standing in range(4):
                for place, column in enumerate(columns_plain(S, tapes)):
                    self.assertEqual(machine.next_of(standing, column), machine.rows[standing][place])

    def test_next_of_errors(self):
        for standing in (-1, 2, 100):
            self.fails(BadNumber, (standing,), ENDS_IN_ONE.next_of, standing, ("#",))
        for column in ((), ("#",), ("2",), ("0", "0"), ("0", "#"), ("",), ("0",) * 5):
            self.fails(BadColumn, (column,), ENDS_IN_ONE.next_of, 0, column)
        two = some_machine(S, 2, 2, 1)
        for column in ((), ("0",), ("#", "#"), ("0", "x"), ("0", "0", "0")):
            self.fails(BadColumn, (column,), two.next_of, 1, column)

    def test_is_end(self):
        self.assertIs(ENDS_IN_ONE.is_end(0), False)
        self.assertIs(ENDS_IN_ONE.is_end(1), True)
        for standing in (-1, 2):
            self.fails(BadNumber, (standing,), ENDS_IN_ONE.is_end, standing)

    def test_takes(self):
        for run, end in (((), 0), (("1",), 1), (("0", "1"), 1), (("1", "0"), 0)):
            self.assertEqual(ENDS_IN_ONE.reached([run]), end)
            self.assertIs(ENDS_IN_ONE.takes([run]), end == 1)
            self.assertIs([run] in ENDS_IN_ONE, end == 1)
            self.assertIs(ENDS_IN_ONE.takes((run,)), end == 1)

    def test_takes_rows(self):
        for tapes in (1, 2, 3, 4):
            length = 4 - tapes if tapes < 4 else 1
            machine = some_machine(S, tapes, 5, 10 + tapes)
            found = taken(machine, length)
            for row in rows(S, tapes, length):
                self.assertIs(machine.takes(row), row in found)
                self.assertIs(row in machine, row in found)
                self.assertEqual(machine.is_end(machine.reached(row)), row in found)

    def test_empty_runs(self):
        self.assertTrue(Machine(S, 2, [[1] * 8, [1] * 8], [True, False]).takes([(), ()]))
        self.assertFalse(Machine(S, 2, [[1] * 8, [1] * 8], [False, True]).takes([(), ()]))

    def test_errors(self):
        for machine, wrong in ((ENDS_IN_ONE, []), (ENDS_IN_ONE, [("x",), ()]), (some_machine(S, 3, 2, 2), [()])):
            for call in (machine.reached, machine.takes):
                self.fails(UnlikeTapes, (len(wrong), machine.tapes), call, wrong)
            self.assertIs(wrong in machine, False)
        three = Machine(S, 3, [[0] * 26], [True])
        for call in (three.reached, three.takes):
            self.fails(BadRun, (1,), call, [("0",), ("0", "#"), ("2",)])
            self.fails(BadRun, (2,), call, [("0",), (), ("",)])
        self.assertIs([("0",), (), ("",)] in three, False)
        self.assertIs([("0",), (), ("1",)] in three, True)

    def test_named(self):
        named = ENDS_IN_ONE.named("clerk")
        self.assertEqual((named.name, ENDS_IN_ONE.name), ("clerk", "made"))
        self.assertTrue(named == ENDS_IN_ONE)
        self.assertEqual((named.tapes, named.letters, named.standings), (1, S, 2))
        self.fails(BadName, ("no name",), ENDS_IN_ONE.named, "no name")

    def test_equal(self):
        for other in (Machine(S, 1, [[0, 1], [0, 0]], [False, True]), Machine(S, 1, [[0, 1], [0, 1]], [True, True]),
                      Machine(Letters(("s", "10")), 1, [[0, 1], [0, 1]], [False, True]),
                      Machine(S, 1, [[0, 1], [0, 1], [0, 0]], [False, True, False])):
            self.assertFalse(ENDS_IN_ONE == other)
            self.assertTrue(ENDS_IN_ONE != other)
        two = Machine(ONE, 2, [[0] * 3], [True])
        self.assertFalse(Machine(Letters(("s", "012")), 1, [[0] * 3], [True]) == two)
        for other in (None, 2, "Machine", Program(S, S, [[None, None]], [True])):
            self.assertFalse(ENDS_IN_ONE == other)

    def test_tapes_count_for_equality(self):
        self.assertFalse(Machine(S, 2, [[0] * 8], [True]) == Machine(IO, 1, [[0] * 4], [True]))

    def test_len_and_repr(self):
        self.assertEqual(len(ENDS_IN_ONE), 2)
        self.assertEqual(repr(ENDS_IN_ONE), "Machine(1 tapes, 2 standings)")
        self.assertEqual(repr(Machine(ONE, 4, [[0] * 15], [True], machine_name="x")), "Machine(4 tapes, 1 standings)")


if __name__ == "__main__":
    unittest.main()
