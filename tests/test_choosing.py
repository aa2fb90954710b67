import itertools
import unittest

from fewbreak.choosing import chosen, dropped
from fewbreak.combine import any_row, no_row, only_row
from fewbreak.errors import BadNumber, TooMany, UnlikeTapes
from fewbreak.least import least
from fewbreak.machinetexts import read_machine
from plain import Case, IO, ONE, S, SIXTEEN, rows, runs, some_machine, taken

# takes a row if the first run is longer than all others of the row
LONGER = {
    2: "machine 2\nstanding a\n? ? a\n? # b\nstanding b end\n? # b\n",
    3: "machine 3\nstanding a\n? # # b\n? * * a\nstanding b end\n? # # b\n",
}


class ChosenTest(Case):
    def against_a_walk(self, machine, tapes, picks, length):
        letters = machine.letters
        found = chosen(machine, tapes, picks)
        self.lacks_faults(found)
        self.assertEqual((found.letters, found.tapes), (letters, tapes))
        held = taken(machine, length)
        wish = [row for row in rows(letters, tapes, length) if [row[pick] for pick in picks] in held]
        self.assertEqual(taken(found, length), wish, (tapes, picks))
        return found

    def test_against_a_walk(self):
        for letters, old, tapes, length in ((S, 1, 1, 4), (S, 1, 2, 3), (S, 2, 1, 4), (S, 2, 2, 3), (S, 2, 3, 2),
                                            (S, 3, 2, 2), (ONE, 3, 3, 3), (ONE, 4, 2, 3), (ONE, 2, 4, 2), (IO, 2, 2, 1)):
            for picks in itertools.product(range(tapes), repeat=old):
                for seed in range(2):
                    self.against_a_walk(some_machine(letters, old, 3, seed), tapes, list(picks), length)

    def test_tuples(self):
        machine = some_machine(S, 2, 3, 1)
        self.assertEqual(chosen(machine, 2, (1, 0)), chosen(machine, 2, [1, 0]))

    def test_same_picks_change_nothing(self):
        machine = some_machine(S, 3, 3, 1)
        self.assertEqual(chosen(machine, 3, [0, 1, 2]), least(machine))

    def test_left_out_run_is_any(self):
        machine = chosen(only_row(S, [("0",)]), 3, [1])
        self.assertTrue(machine.takes([("1", "1", "1"), ("0",), ()]))
        self.assertTrue(machine.takes([(), ("0",), ("0", "0")]))
        self.assertFalse(machine.takes([("0",), ("0", "0"), ("0",)]))
        self.assertEqual(chosen(any_row(S, 2), 3, [2, 2]), any_row(S, 3))

    def test_picks_of_picks(self):
        machine = some_machine(S, 2, 4, 8)
        for first in itertools.product(range(3), repeat=2):
            for second in itertools.product(range(2), repeat=3):
                through = chosen(chosen(machine, 3, list(first)), 2, list(second))
                self.assertEqual(through, chosen(machine, 2, [second[pick] for pick in first]))

    def test_errors(self):
        machine = some_machine(S, 2, 2, 1)
        self.fails(BadNumber, (0,), chosen, machine, 0, [])
        self.fails(BadNumber, (-1,), chosen, machine, -1, [9])
        self.fails(TooMany, ("tapes", 5), chosen, machine, 5, [9])
        large = some_machine(SIXTEEN, 1, 2, 1)
        self.fails(TooMany, ("columns", 17 ** 3 - 1), chosen, large, 3, [9, 9])
        self.fails(UnlikeTapes, (1, 2), chosen, machine, 2, [9])
        self.fails(UnlikeTapes, (3, 2), chosen, machine, 2, [0, 1, 9])
        self.fails(UnlikeTapes, (0, 2), chosen, machine, 2, [])
        self.fails(BadNumber, (2,), chosen, machine, 2, [2, -1])
        self.fails(BadNumber, (-1,), chosen, machine, 2, [-1, 7])
        self.fails(BadNumber, (3,), chosen, machine, 3, [2, 3])


class DroppedTest(Case):
    def test_against_a_walk(self):
        for letters, tapes, standings, length in ((S, 2, 3, 2), (ONE, 2, 5, 4), (ONE, 3, 3, 3), (S, 3, 2, 1)):
            for tape in range(tapes):
                for seed in range(6):
                    machine = some_machine(letters, tapes, standings, seed)
                    found = dropped(machine, tape)
                    self.lacks_faults(found)
                    self.assertEqual((found.letters, found.tapes), (letters, tapes - 1))
                    # a put run need not be longer than the others by more letters than there are standings
                    put = runs(letters, length + standings)
                    wish = []
                    for row in rows(letters, tapes - 1, length):
                        if any(machine.takes(row[:tape] + [run] + row[tape:]) for run in put):
                            wish.append(row)
                    self.assertEqual(taken(found, length), wish)

    def test_put_run_is_longer(self):
        self.assertEqual(dropped(read_machine(S, LONGER[2]), 0), any_row(S, 1))
        self.assertEqual(dropped(read_machine(S, LONGER[3]), 0), any_row(S, 2))
        for tape in (1, 2):
            machine = dropped(read_machine(S, LONGER[3]), tape)
            self.assertEqual(machine, least(read_machine(S, LONGER[2])))

    def test_put_run_is_longer_at_each_tape(self):
        for tapes in (2, 3):
            for tape in range(tapes):
                picks = [tape] + [other for other in range(tapes) if other != tape]
                machine = chosen(read_machine(S, LONGER[tapes]), tapes, picks)
                self.assertEqual(dropped(machine, tape), any_row(S, tapes - 1))

    def test_far_longer(self):
        long = [("1",), ("0", "1") * 15, ()]
        machine = dropped(only_row(S, long), 1)
        self.assertEqual(machine, only_row(S, [("1",), ()]))
        self.assertEqual(dropped(machine, 0), only_row(S, [()]))

    def test_unfilled_lists_do_not_count(self):
        # the end is reached only where the run at tape 0 goes on behind its end
        machine = read_machine(S, "machine 2\nstanding a\n# ? b\nstanding b\n? ? c\nstanding c end\n* * c\n")
        self.assertEqual(dropped(machine, 0), no_row(S, 1))
        self.assertEqual(dropped(machine, 1), no_row(S, 1))

    def test_errors(self):
        two, one = some_machine(S, 2, 2, 1), some_machine(S, 1, 2, 1)
        for tape in (-1, 2, 3):
            self.fails(BadNumber, (tape,), dropped, two, tape)
        for tape in (-1, 1):
            self.fails(BadNumber, (tape,), dropped, one, tape)
        self.fails(UnlikeTapes, (1, 2), dropped, one, 0)


if __name__ == "__main__":
    unittest.main()
