import random
import unittest

from fewbreak.besides import beside
from fewbreak.combine import any_row, no_row
from fewbreak.coming import may_come
from fewbreak.errors import BadRun, BreaksBeside, TooMany
from fewbreak.least import least
from fewbreak.meaning import lot_keeps
from fewbreak.rules import all_rule, both, few, gives, led, none_rule, same
from fewbreak.runs import read_lot
from plain import (IO, LONGEST, ONE, S, SIXTEEN, THREE, Case, five, in_order, least_broken_parts, machine_of, runs,
                   some_lot, some_rule)
import plain


class ComingTest(Case):
    def test_against_lot_keeps(self):
        found = [0, 0, 0]
        for seed in range(300):
            letters = (ONE, S, S, THREE, IO)[seed % 5]
            source = random.Random(seed)
            rule = some_rule(letters, seed, deep=seed % 3, most=4 if seed % 3 else 3)
            lot = some_lot(letters, source, 4)
            if not plain.keeps(rule, lot):
                found[2] += 1
                first = least_broken_parts(rule, in_order(letters, lot))[0]
                self.fails(BreaksBeside, (first,), may_come, rule, lot)
                continue
            machine = may_come(rule, lot + lot[:1])
            self.assertEqual((machine.tapes, machine.name), (1, "made"))
            self.assertEqual(machine, least(machine))
            if machine.standings <= 10:
                self.lacks_faults(machine)
            for run in runs(letters, LONGEST[len(letters)]):
                self.assertIs(machine.takes([run]), lot_keeps(rule, lot + [run]))
                found[machine.takes([run])] += 1
            self.assertTrue(all(machine.takes([run]) for run in lot))
        self.assertGreater(min(found), 60)

    def test_small(self):
        rule = gives(same(IO, "in"), same(IO, "out"))
        machine = may_come(rule, read_lot(IO, "11.00 00"))
        for text, comes in (("00", True), ("01", False), ("10", True), ("11.00", True), ("11.01", False), ("-", True),
                            ("10.00", False), ("10.10", True), ("11.00.01", True)):
            self.assertIs(machine.takes(read_lot(IO, text)), comes, text)
        self.assertEqual(may_come(none_rule(S), []), no_row(S, 1))
        self.assertEqual(may_come(same(S, "s"), []), any_row(S, 1))
        self.assertEqual(may_come(same(S, "s"), [("0", "1")]), machine_of(S, [("0", "1")]))
        self.assertEqual(may_come(same(S, "s"), (("0", "1"), ("0", "1"))), machine_of(S, [("0", "1")]))
        self.assertEqual(may_come(few(2, none_rule(S) | none_rule(S)), []), no_row(S, 1))

    def test_ten_told_runs(self):
        lot = [("0",) * many for many in range(10)]
        machine = may_come(led(S, [], ["s"]), lot)
        self.assertTrue(machine.takes([("0",) * 12]))
        self.assertFalse(machine.takes([("0",) * 8 + ("1",)]))
        self.assertTrue(machine.takes([("0",) * 9 + ("1",)]))

    def test_errors_in_order(self):
        lot = [("0",) * many for many in range(11)]
        forty = both(S, *[same(S)] * 39)
        self.assertEqual(forty.forms, 40)
        self.fails(BadRun, (11,), may_come, forty, lot + [("2",), ("x",)])
        self.fails(TooMany, ("forms", 41), may_come, forty, lot)
        self.fails(TooMany, ("runs", 11), may_come, five(S), lot)
        self.fails(TooMany, ("runs", 11), may_come, beside(lot[:3], all_rule(S)) & five(S), lot[:8])
        self.fails(BreaksBeside, ([(), ("0",)],), may_come, same(S, "s") & few(9, five(S)), lot[:3])
        # the room of the new rule, whose reach is the number of the old one
        self.fails(TooMany, ("tapes", 5), may_come, five(S), [])
        self.fails(TooMany, ("columns", 17 ** 3 - 1), may_come, same(SIXTEEN) | none_rule(SIXTEEN), [("0000",)])
        self.assertEqual(may_come(all_rule(SIXTEEN), [("0000",)]), any_row(SIXTEEN, 1))

    def test_arguments(self):
        lot = [("1",), ("0",), ("1",)]
        self.assertEqual(may_come(lot=lot, rule=all_rule(S)), any_row(S, 1))
        self.assertEqual(lot, [("1",), ("0",), ("1",)])


if __name__ == "__main__":
    unittest.main()
