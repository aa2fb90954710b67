import random
import unittest

from fewbreak.besides import beside
from fewbreak.blame import blame, blameless
from fewbreak.combine import any_row, met, no_row
from fewbreak.errors import BadRun, NotHeld, TooMany, UnlikeParts, UnlikeTapes
from fewbreak.kept import alone, keeps
from fewbreak.least import least
from fewbreak.letters import Letters
from fewbreak.machinetexts import read_machine
from fewbreak.rules import all_rule, bar, both, each, few, gives, led, none_rule, same
from fewbreak.runs import read_lot
from plain import (IO, LONGEST, ONE, S, SIXTEEN, THREE, LotsCase, five, in_order, least_broken_parts, machine_of, runs,
                   some_lot, some_machine, some_rule, zero)
import plain

BACK = Letters(("s", "10"))
ENDS_IN_ONE = read_machine(S, "machine 1\nstanding a\n1 b\n0 a\nstanding b end\n1 b\n0 a\n")
ALPHABETS = (ONE, S, S, THREE, IO)
LEADS = gives(same(IO, "in"), same(IO, "out"))
# takes just the row of the runs -, 0, 0.0 and 0.0.0
LENGTHS = read_machine(ONE, "machine 4\nstanding a\n# 0 0 0 b\nstanding b\n# # 0 0 c\nstanding c\n# # # 0 d\n"
                            "standing d end\n")


def blames(machine, rule, run):
    """Whether the lots of rows are least broken, within the lot of a machine, and have a run."""
    known = {}

    def demand(row):
        lot = frozenset(row)
        if lot not in known:
            known[lot] = run in lot and all(machine.takes([one]) for one in lot) and is_least_broken(rule, lot)
        return known[lot]

    return demand


def is_least_broken(rule, lot):
    return not plain.keeps(rule, lot) and all(plain.keeps(rule, lot - {run}) for run in lot)


class FiniteTest(LotsCase):
    def test_against_least_broken_parts(self):
        """For machines of few runs, told lots say all: which runs have blame, and the first lot for each of them."""
        found = [0, 0]
        for seed in range(250):
            source = random.Random(seed)
            letters = ALPHABETS[seed % 5]
            lot = in_order(letters, some_lot(letters, source, 6, LONGEST[len(letters)]))
            rule = some_rule(letters, seed, deep=seed % 3, most=4 if seed % 4 == 0 else 3)
            machine = machine_of(letters, lot)
            broken = least_broken_parts(rule, lot)
            clean = [run for run in lot if not any(run in part for part in broken)]
            self.assertEqual(blameless(machine, rule), machine_of(letters, clean))
            for run in lot:
                first = blame(machine, rule, run)
                found[first is None] += 1
                self.assertIs(first is None, run in clean)
                if first is not None:
                    self.assertIn(in_order(letters, first), broken)
                    self.is_first(first, letters, blames(machine, rule, run), rule.number)
        self.assertGreater(min(found), 150)

    def test_in_each_greatest_kept_part(self):
        for seed in range(60):
            lot = in_order(S, some_lot(S, random.Random(seed), 6))
            rule = some_rule(S, seed + 7, deep=seed % 3)
            kept = plain.greatest_parts(rule, lot)
            clean = [run for run in lot if all(run in part for part in kept)]
            self.assertEqual(blameless(machine_of(S, lot), rule), machine_of(S, clean))


class EndlessTest(LotsCase):
    def test_against_short_runs(self):
        found = [0, 0]
        for seed in range(150):
            letters = ALPHABETS[seed % 5]
            machine = some_machine(letters, 1, seed % 4 + 1, seed)
            rule = some_rule(letters, seed + 50, deep=seed % 3, most=3)
            clean = blameless(machine, rule)
            self.assertEqual(clean, least(clean))
            self.assertEqual((clean.tapes, clean.name), (1, "made"))
            if clean.standings <= 8:
                self.lacks_faults(clean)
            for run in runs(letters, LONGEST[len(letters)])[:10]:
                if not machine.takes([run]):
                    self.assertFalse(clean.takes([run]))
                    continue
                lot = blame(machine, rule, run)
                self.assertIs(clean.takes([run]), lot is None)
                self.is_first(lot, letters, blames(machine, rule, run), rule.number)
                found[lot is None] += 1
        self.assertGreater(min(found), 100)

    def test_a_machine_that_keeps_the_rule(self):
        many = 0
        for seed in range(120):
            letters = ALPHABETS[seed % 5]
            machine = some_machine(letters, 1, seed % 4 + 1, seed)
            rule = some_rule(letters, seed + 50, deep=seed % 3, most=3)
            if keeps(machine, rule) is None:
                many += 1
                self.assertEqual(blameless(machine, rule), least(machine))
        self.assertGreater(many, 20)

    def test_rules_of_rank_1(self):
        machine = any_row(S, 1)
        self.assertEqual(blameless(machine, each(ENDS_IN_ONE)), least(ENDS_IN_ONE))
        self.assertEqual(blameless(machine, none_rule(S)), no_row(S, 1))
        for seed in range(30):
            machine = some_machine(S, 1, 3, seed)
            rule = each(some_machine(S, 1, 2, seed + 1)) & each(ENDS_IN_ONE)
            self.assertEqual(blameless(machine, rule), met(machine, alone(rule)))

    def test_runs_that_break_alone_blame_no_others(self):
        rule = each(ENDS_IN_ONE) & led(S, [], ["s"])
        zeros_and_one = machine_of(S, [("0",), ("0", "0"), ("1",)])
        self.assertEqual(blameless(zeros_and_one, rule), machine_of(S, [("1",)]))
        self.assertIsNone(blame(zeros_and_one, rule, ("1",)))
        self.assertEqual(blame(zeros_and_one, rule, ("0",)), [("0",)])

    def test_longer_runs_that_blame(self):
        """The runs of a least broken lot may be longer than the run that is blamed, and the first one is short."""
        rule = led(IO, [], ["out"])
        machine = machine_of(IO, read_lot(IO, "00 - 00.00.01 00.00.00.11"))
        self.assertEqual(blameless(machine, rule), machine_of(IO, read_lot(IO, "- 00")))
        machine = machine_of(IO, read_lot(IO, "00 - 00.01.01 01.00.00.11"))
        self.assertEqual(blameless(machine, rule), machine_of(IO, [()]))
        self.assertEqual(blame(machine, rule, ("00",)), [("00",), ("01", "00", "00", "11")])
        self.assertEqual(blame(machine, rule, ("01", "00", "00", "11")), [("00",), ("01", "00", "00", "11")])
        self.assertEqual(blame(machine, rule, ("00", "01", "01")), [("00", "01", "01"), ("01", "00", "00", "11")])
        self.assertIsNone(blame(machine, rule, ()))


class OrderTest(LotsCase):
    def test_order_of_lots(self):
        everything = any_row(IO, 1)
        self.assertEqual(blame(everything, LEADS, ("00",)), [("00",), ("01",)])
        self.assertEqual(blame(everything, LEADS, ("01",)), [("00",), ("01",)])
        self.assertEqual(blame(everything, LEADS, ("11",)), [("10",), ("11",)])
        self.assertIsNone(blame(everything, LEADS, ()))
        self.assertEqual(blame(everything, same(IO, "in"), ("00",)), [(), ("00",)])
        self.assertEqual(blame(everything, same(IO, "in"), ("10", "00")), [(), ("10", "00")])
        self.assertEqual(blame(any_row(S, 1), gives(each(ENDS_IN_ONE), same(S, "s")), ("1",)), [("0", "1"), ("1",)])

    def test_fewer_runs_ahead_of_earlier_rows(self):
        three = both(ONE, bar(read_machine(ONE, "machine 3\nstanding a\n# 0 0 b\nstanding b\n# # 0 c\nstanding c end\n")),
                     bar(read_machine(ONE, "machine 2\nstanding a\n0 0 b\nstanding b\n# 0 c\nstanding c end\n")))
        self.assertEqual(blame(any_row(ONE, 1), three, ("0", "0")), [("0",), ("0", "0")])
        self.assertEqual(blame(any_row(ONE, 1), three, ("0",)), [("0",), ("0", "0")])
        self.assertIsNone(blame(any_row(ONE, 1), three, ()))

    def test_four_runs(self):
        four = [(), ("0",), ("0", "0"), ("0", "0", "0")]
        for run in four:
            self.assertEqual(blame(any_row(ONE, 1), bar(LENGTHS), run), four)
        self.assertIsNone(blame(any_row(ONE, 1), bar(LENGTHS), ("0",) * 4))
        self.assertEqual(blameless(any_row(ONE, 1), bar(LENGTHS)),
                         read_machine_of_long_runs())
        self.assertEqual(blameless(machine_of(ONE, four[1:]), bar(LENGTHS)), machine_of(ONE, four[1:]))

    def test_beside_told_runs(self):
        rule = beside(read_lot(IO, "00"), LEADS)
        everything = any_row(IO, 1)
        self.assertEqual(blame(everything, rule, ("01",)), [("01",)])
        self.assertEqual(blame(everything, rule, ("10",)), [("10",), ("11",)])
        self.assertIsNone(blame(everything, rule, ("00",)))

    def test_long_rules(self):
        rule = both(IO, *[LEADS] * 13)
        self.assertEqual(rule.forms, 40)
        self.assertEqual(blameless(any_row(IO, 1), rule), blameless(any_row(IO, 1), LEADS))
        self.assertEqual(blame(any_row(IO, 1), rule, ("11",)), [("10",), ("11",)])


class ErrorsTest(LotsCase):
    def test_in_order(self):
        for call, more in ((blameless, ()), (blame, (("9",),))):
            self.fails(UnlikeTapes, (2, 1), call, any_row(BACK, 2), five(S), *more)
            self.fails(UnlikeParts, ("s:01", "s:10"), call, any_row(BACK, 1), five(S), *more)
            self.fails(TooMany, ("tapes", 5), call, no_row(S, 1), five(S), *more)
            self.fails(TooMany, ("tapes", 5), call, no_row(S, 1), few(1, beside([], five(S))), *more)
            self.fails(TooMany, ("columns", 17 ** 3 - 1), call, no_row(SIXTEEN, 1), same(SIXTEEN) | none_rule(SIXTEEN),
                       *more)
        self.fails(BadRun, (0,), blame, no_row(S, 1), same(S), ("0", "9"))
        self.fails(NotHeld, (("0", "1"),), blame, no_row(S, 1), same(S), ("0", "1"))
        self.fails(NotHeld, ((),), blame, ENDS_IN_ONE, same(S), ())
        self.fails(BadRun, (0,), blame, ENDS_IN_ONE, zero(S), ("00",))
        self.fails(NotHeld, (("0",),), blame, ENDS_IN_ONE, zero(S), ("0",))

    def test_number_0(self):
        for rule in (zero(S), all_rule(S), few(0, none_rule(S))):
            self.assertEqual(blameless(ENDS_IN_ONE, rule), least(ENDS_IN_ONE))
            self.assertIsNone(blame(ENDS_IN_ONE, rule, ("1",)))

    def test_new_lists_and_names(self):
        machine, rule, run = any_row(S, 1), same(S, "s"), ("0",)
        blame(machine, rule, run).clear()
        self.assertEqual(blame(run=run, rule=rule, machine=machine), [(), ("0",)])
        self.assertEqual(blameless(rule=rule, machine=machine.named("odd")).name, "made")


def read_machine_of_long_runs():
    """The machine of the runs with four letters or more."""
    return least(read_machine(ONE, "machine 1\nstanding a\n0 b\nstanding b\n0 c\nstanding c\n0 d\nstanding d\n0 e\n"
                                   "standing e end\n0 e\n"))


if __name__ == "__main__":
    unittest.main()
