import types
import unittest

from fewbreak.combine import any_row, no_row, only_row
from fewbreak.errors import BadNumber
from fewbreak.letters import Letters
from fewbreak.machines import Machine
from fewbreak.rows import LENGTH, count_rows, first_row, taken_rows
from plain import Case, IO, ONE, S, THREE, rows, some_machine, taken

SIZES = ((ONE, 1, 6, 8), (S, 1, 5, 6), (S, 2, 4, 3), (ONE, 3, 4, 3), (S, 3, 3, 2), (THREE, 2, 3, 2), (ONE, 4, 3, 2))


class FirstRowTest(Case):
    def test_against_a_walk(self):
        for letters, tapes, standings, length in SIZES:
            for seed in range(20):
                machine = some_machine(letters, tapes, standings, seed)
                wish = taken(machine, length)
                if wish:
                    self.assertEqual(first_row(machine), wish[0])
                elif first_row(machine) is not None:
                    self.assertTrue(machine.takes(first_row(machine)))
                    self.assertGreater(max(map(len, first_row(machine))), length)

    def test_none(self):
        for tapes in (1, 2, 3, 4):
            self.assertIsNone(first_row(no_row(S, tapes)))
        self.assertIsNone(first_row(Machine(S, 1, [[0, 0], [1, 1]], [False, True])))
        # the end is led to only by lists that are not filled
        self.assertIsNone(first_row(Machine(ONE, 2, [[1, 0, 0], [1, 2, 2], [2, 2, 2]], [False, False, True])))

    def test_order_of_signs(self):
        back = Letters(("s", "10"))
        self.assertEqual(first_row(Machine(back, 1, [[1, 1], [1, 1]], [False, True])), [("1",)])

    def test_ended_ahead_of_letters(self):
        machine = Machine(S, 2, [[1] * 8, [1] * 8], [False, True])
        self.assertEqual(first_row(machine), [(), ("0",)])

    def test_empty_runs(self):
        for tapes in (1, 2, 3, 4):
            self.assertEqual(first_row(any_row(S, tapes)), [()] * tapes)

    def test_far_end(self):
        many = 3000
        table = [[min(k + 1, many - 1)] * 2 for k in range(many)]
        self.assertEqual(first_row(Machine(S, 1, table, [k == many - 1 for k in range(many)])), [("0",) * (many - 1)])
        long = [("1", "0") * 20, ("0",) * 39, ()]
        self.assertEqual(first_row(only_row(S, long)), long)


class TakenRowsTest(Case):
    def test_against_a_walk(self):
        for letters, tapes, standings, length in SIZES:
            for seed in range(10):
                machine = some_machine(letters, tapes, standings, seed)
                for many in range(length + 1):
                    wish = taken(machine, many)
                    self.assertEqual(list(taken_rows(machine, many)), wish)
                    self.assertEqual(count_rows(machine, many), len(wish))

    def test_default_length(self):
        self.assertEqual(LENGTH, 3)
        self.assertEqual(list(taken_rows(any_row(S, 1))), rows(S, 1, 3))
        self.assertEqual(count_rows(any_row(S, 1)), 15)
        self.assertEqual(list(taken_rows(any_row(ONE, 2), length=3)), rows(ONE, 2, 3))
        self.assertEqual(count_rows(any_row(S, 1), length=1), 3)

    def test_length_zero(self):
        self.assertEqual(list(taken_rows(any_row(IO, 2), 0)), [[(), ()]])
        self.assertEqual(count_rows(any_row(IO, 2), 0), 1)
        self.assertEqual(list(taken_rows(only_row(S, [("0",)]), 0)), [])
        self.assertEqual(count_rows(only_row(S, [("0",)]), 0), 0)

    def test_length_twelve(self):
        self.assertEqual(list(taken_rows(any_row(S, 1), 12)), rows(S, 1, 12))
        self.assertEqual(count_rows(any_row(S, 1), 12), 2 ** 13 - 1)
        self.assertEqual(count_rows(any_row(IO, 3), 12), ((4 ** 13 - 1) // 3) ** 3)
        twelve, thirteen = [("1",) * 12], [("1",) * 13]
        self.assertEqual(list(taken_rows(only_row(S, twelve), 12)), [twelve])
        self.assertEqual(list(taken_rows(only_row(S, thirteen), 12)), [])
        self.assertEqual(count_rows(only_row(S, thirteen), 12), 0)

    def test_other_lengths(self):
        machine = any_row(S, 1)
        for length in (-1, 13, 100):
            self.fails(BadNumber, (length,), count_rows, machine, length)
            self.fails(BadNumber, (length,), lambda: next(taken_rows(machine, length)))

    def test_generator(self):
        made = taken_rows(any_row(S, 1), 13)
        self.assertIsInstance(made, types.GeneratorType)
        self.assertEqual(next(taken_rows(any_row(IO, 4), 12)), [()] * 4)

    def test_rows_are_new(self):
        machine = any_row(S, 2)
        for row in taken_rows(machine, 2):
            row.append("changed")
        self.assertEqual(list(taken_rows(machine, 2)), rows(S, 2, 2))


if __name__ == "__main__":
    unittest.main()
