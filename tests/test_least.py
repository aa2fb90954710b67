import itertools
import random
import unittest

from fewbreak.combine import any_row
from fewbreak.least import is_least, least, least_from, like, padded, rough_of, trimmed
from fewbreak.letters import Letters
from fewbreak.machines import Machine
from plain import Case, IO, ONE, S, THREE, columns_plain, some_machine, taken

SIZES = ((ONE, 1, 6), (ONE, 2, 5), (ONE, 3, 4), (ONE, 4, 3), (S, 1, 6), (S, 2, 5), (S, 3, 3), (THREE, 2, 4), (IO, 1, 7))


def shuffled(machine, seed):
    """The same machine with other numbers, each standing twice, and a standing that is not reached."""
    source = random.Random(seed)
    many = 2 * machine.standings
    order = list(range(1, many))
    source.shuffle(order)
    number = [0] + order
    table = [None] * many
    ends = [None] * many
    for standing in range(many):
        old = standing // 2
        nexts = [number[2 * after + source.randrange(2)] for after in machine.rows[old]]
        table[number[standing]] = nexts
        ends[number[standing]] = machine.ends[old]
    lost = [source.randrange(many) for _ in machine.rows[0]]
    return Machine(machine.letters, machine.tapes, table + [lost], ends + [True])


class ExamplesTest(Case):
    def test_runs_that_end_in_one(self):
        doubled = Machine(S, 1, [[2, 1], [0, 3], [0, 3], [2, 1]], [False, True, False, True])
        self.assertEqual(least(doubled), Machine(S, 1, [[0, 1], [0, 1]], [False, True]))

    def test_all_rows(self):
        machine = least(Machine(S, 2, [[0] * 8], [True]))
        dead = [3] * 8
        first = [1, 1, 2, 0, 0, 2, 0, 0]
        second_goes_on = [1, 1, 3, 3, 3, 3, 3, 3]
        first_goes_on = [3, 3, 2, 3, 3, 2, 3, 3]
        self.assertEqual(machine, Machine(S, 2, [first, second_goes_on, first_goes_on, dead], [True] * 3 + [False]))
        self.assertEqual(any_row(S, 2), machine)

    def test_no_row(self):
        for tapes in (1, 2, 3, 4):
            many = 3 ** tapes - 1
            self.assertEqual(least(Machine(S, tapes, [[1] * many, [0] * many], [False, False])),
                             Machine(S, tapes, [[0] * many], [False]))

    def test_unfilled_lists_mean_nothing(self):
        # the end is reached only where the first run goes on behind its end
        machine = Machine(ONE, 2, [[1, 0, 0], [1, 2, 2], [2, 2, 2]], [False, False, True])
        self.assertEqual(taken(machine, 4), [])
        self.assertEqual(least(machine), Machine(ONE, 2, [[0] * 3], [False]))
        self.assertIs(like(machine, Machine(ONE, 2, [[0] * 3], [False])), True)


class LeastTest(Case):
    def test_no_fault(self):
        for letters, tapes, standings in SIZES:
            for seed in range(12):
                machine = some_machine(letters, tapes, standings, seed)
                found = least(machine)
                self.lacks_faults(found)
                length = 3 if tapes < 3 else 2
                self.assertEqual(taken(found, length), taken(machine, length))
                self.assertEqual((found.letters, found.tapes), (letters, tapes))

    def test_one_for_all_that_are_alike(self):
        for letters, tapes, standings in SIZES:
            for seed in range(8):
                machine = some_machine(letters, tapes, standings, seed)
                for other in (shuffled(machine, seed), shuffled(shuffled(machine, seed), seed + 1), least(machine)):
                    self.assertEqual(least(other), least(machine))
                    self.assertTrue(like(other, machine))

    def test_is_least(self):
        for letters, tapes, standings in SIZES:
            for seed in range(8):
                machine = some_machine(letters, tapes, standings, seed)
                self.assertIs(is_least(least(machine)), True)
                self.assertIs(is_least(least(machine).named("other")), True)
                self.assertIs(is_least(shuffled(machine, seed)), False)

    def test_is_least_looks_at_each_demand(self):
        self.assertIs(is_least(Machine(S, 1, [[0, 1], [0, 1]], [False, True])), True)
        # unreached
        self.assertIs(is_least(Machine(S, 1, [[0, 1], [0, 1], [0, 1]], [False, True, True])), False)
        # doubled
        self.assertIs(is_least(Machine(S, 1, [[0, 0], [0, 0]], [True, True])), False)
        self.assertIs(is_least(Machine(S, 1, [[0, 1], [0, 2], [0, 1]], [False, True, True])), False)
        # the order of the numbers
        self.assertIs(is_least(Machine(S, 1, [[2, 1], [1, 1], [2, 2]], [False, True, False])), False)
        self.assertIs(is_least(Machine(S, 1, [[1, 2], [1, 1], [2, 2]], [False, False, True])), True)
        # lists that are not filled lead to ends
        self.assertIs(is_least(Machine(S, 2, [[0] * 8], [True])), False)

    def test_like(self):
        one = Machine(S, 1, [[0, 1], [0, 1]], [False, True], machine_name="one")
        self.assertIs(like(one, Machine(S, 1, [[2, 1], [0, 1], [0, 1]], [False, True, False])), True)
        self.assertIs(like(one, Machine(S, 1, [[0, 1], [1, 0]], [False, True])), False)
        self.assertIs(like(one, Machine(S, 1, [[0, 1], [0, 1]], [True, True])), False)

    def test_like_far(self):
        """Two machines that differ at one long run alone."""
        many = 50
        table = [[min(k + 1, many - 1)] for k in range(many)]
        one = Machine(ONE, 1, table, [False] * many)
        other = Machine(ONE, 1, table, [False] * (many - 1) + [True])
        self.assertIs(like(one, other), False)
        self.assertEqual(least(one).standings, 1)
        self.assertEqual(least(other).standings, many)

    def test_unlike_letters_and_tapes(self):
        one = Machine(S, 1, [[0, 0]], [False])
        self.assertIs(like(one, Machine(Letters(("s", "10")), 1, [[0, 0]], [False])), False)
        self.assertIs(like(one, Machine(Letters(("t", "01")), 1, [[0, 0]], [False])), False)
        self.assertIs(like(one, Machine(S, 2, [[0] * 8], [False])), False)
        self.assertIs(like(Machine(THREE, 1, [[0] * 3], [True]), Machine(ONE, 2, [[0] * 3], [True])), False)

    def test_large(self):
        """A chain, which takes a careless way of parting very long, and a ring."""
        many = 20000
        chain = Machine(S, 1, [[min(k + 1, many - 1)] * 2 for k in range(many)], [k == many - 1 for k in range(many)])
        self.assertTrue(least(chain) == chain)
        ring = Machine(S, 1, [[(k + 1) % many] * 2 for k in range(many)], [k % 40 == 7 for k in range(many)])
        self.assertEqual(least(ring).standings, 40)

    def test_arguments_unchanged(self):
        machine = some_machine(S, 2, 4, 3)
        before = (machine.rows, machine.ends, machine.name)
        least(machine)
        self.assertEqual((machine.rows, machine.ends, machine.name), before)


class RoughTest(Case):
    def test_padded(self):
        """A padded machine reads behind the end of a run nothing but `#`, and takes the same rows."""
        source = random.Random(12)
        for letters, tapes, standings in SIZES:
            machine = some_machine(letters, tapes, standings, 7)
            rough = padded(rough_of(machine))
            self.assertEqual(least_from(rough), least(machine))
            columns = columns_plain(letters, tapes)
            for _ in range(40):
                found = [source.choice(columns) for _ in range(source.randint(0, 5))]
                row = [tuple(itertools.takewhile(lambda item: item != "#", run)) for run in zip(*found)]
                standing = 0
                for column in found:
                    standing = rough.rows[standing][rough.classes[columns.index(column)]]
                self.assertIs(rough.ends[standing], machine.takes(row if found else [()] * tapes))

    def test_few_standings(self):
        for letters, tapes, standings in SIZES:
            rough = trimmed(padded(rough_of(some_machine(letters, tapes, standings, 3))))
            self.assertLessEqual(len(rough.rows), 2 ** tapes * least_from(rough).standings)
        self.assertEqual(len(padded(rough_of(any_row(S, 4))).rows), 1)

    def test_classes(self):
        rough = trimmed(padded(rough_of(any_row(S, 3))))
        self.assertEqual((len(rough.rows[0]), set(rough.classes)), (1, {0}))


if __name__ == "__main__":
    unittest.main()
