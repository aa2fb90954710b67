import itertools
import random
import unittest

from fewbreak.besides import beside
from fewbreak.errors import BadRun, TooMany
from fewbreak.machinetexts import read_machine
from fewbreak.meaning import least_broken, lot_keeps, run_keeps
from fewbreak.rules import all_rule, bar, both, carried, each, either, few, gives, led, none_rule, same
from fewbreak.runs import read_lot
from plain import (Case, IO, ONE, S, THREE, keeps, least_broken_parts, parts, runs, some_machine, some_program, some_rule,
                   within)

ENDS_IN_ONE = read_machine(S, "machine 1\nstanding a\n1 b\n0 a\nstanding b end\n1 b\n0 a\n")
FIRST_IS_LONGER = read_machine(S, "machine 2\nstanding a\n? ? a\n? # b\nstanding b end\n? # b\n")
# takes just the row of the runs -, 0 and 0.0
THREE_LENGTHS = read_machine(S, "machine 3\nstanding a\n# 0 0 b\nstanding b\n# # 0 c\nstanding c end\n")


class KindsTest(Case):
    def test_against_the_table(self):
        """Each kind on all parts of small lots."""
        source = random.Random(5)
        kinds = set()
        for seed in range(300):
            letters = source.choice([ONE, S, S, THREE, IO])
            rule = some_rule(letters, seed, deep=seed % 4)
            kinds |= {one.kind for one in within(rule)}
            lot = source.sample(runs(letters, 3), 4)
            for part in parts(lot):
                if len(part) + rule.told_runs <= 10:
                    self.assertIs(lot_keeps(rule, list(part)), keeps(rule, part), (rule, part))
        self.assertEqual(len(kinds), 12)

    def test_empty_lot_keeps_each_rule(self):
        for seed in range(60):
            self.assertIs(lot_keeps(some_rule(S, seed), []), True)

    def test_runs_at_several_tapes(self):
        twice = read_machine(S, "machine 2\nstanding a end\n0 0 a\n1 1 a\n")
        self.assertFalse(lot_keeps(bar(twice), [("0",)]))
        self.assertFalse(lot_keeps(bar(FIRST_IS_LONGER), [("0",), ()]))
        self.assertTrue(lot_keeps(bar(FIRST_IS_LONGER), [("0",), ("1",)]))

    def test_dropped_runs(self):
        drops = some_program(S, S, 1, 1, holes=1)
        self.assertTrue(lot_keeps(carried(drops, none_rule(S)), [("0",), ("0", "1")]))
        self.assertIs(lot_keeps(carried(drops, none_rule(S)), [()]), not drops.is_end(0))

    def test_two_runs_that_are_written_alike(self):
        blind = carried(some_program(S, ONE, 1, 4, holes=0), same(ONE, "s"))
        self.assertTrue(lot_keeps(blind, [("0",), ("1",)]))
        self.assertTrue(lot_keeps(gives(blind, few(1, none_rule(S))), []))

    def test_beside(self):
        rule = beside([(), ("0",)], few(2, all_rule(S)) & led(S, ["s"], ["s"]))
        self.assertTrue(lot_keeps(rule, [("1",)]))
        rule = beside([("0",)], same(S))
        self.assertTrue(lot_keeps(rule, [("1",), ("0",)]))
        self.assertFalse(lot_keeps(rule, [()]))

    def test_few(self):
        lot = [(), ("0",), ("0", "0")]
        rule = bar(THREE_LENGTHS)
        for part in parts(lot):
            self.assertIs(lot_keeps(rule, part), len(part) < 3)
        for most in range(10):
            self.assertIs(lot_keeps(few(most, rule), lot), most < 3)
            self.assertIs(lot_keeps(few(most, rule), lot + [("1",)]), most < 3)


class ExamplesTest(Case):
    def test_point_14(self):
        lot = [("00",), ("01", "00")]
        self.assertFalse(lot_keeps(same(IO, "in"), lot))
        self.assertFalse(lot_keeps(led(IO, ["in"], ["out"]), lot))
        self.assertTrue(lot_keeps(gives(same(IO, "in"), same(IO, "out")), lot))
        self.assertTrue(lot_keeps(each(ENDS_IN_ONE), [("1",), ("0", "1")]))
        all_or_none = either(each(ENDS_IN_ONE), gives(each(ENDS_IN_ONE), none_rule(S)))
        self.assertFalse(lot_keeps(all_or_none, [(), ("1",)]))
        self.assertTrue(lot_keeps(all_or_none, [()]))
        self.assertTrue(lot_keeps(all_or_none, [("1",)]))

    def test_point_33(self):
        rule = gives(same(IO, "in"), same(IO, "out"))
        self.assertEqual(least_broken(rule, read_lot(IO, "00 01 10")), [read_lot(IO, "00 01")])


class LeastBrokenTest(Case):
    def test_against_the_table(self):
        source = random.Random(7)
        for seed in range(200):
            letters = source.choice([ONE, S, IO])
            rule = some_rule(letters, seed, deep=seed % 3 + 1)
            held = source.sample(runs(letters, 3), 4 if len(letters) == 1 else 5)
            in_order = [run for run in runs(letters, 3) if run in held]
            if len(held) + rule.told_runs <= 10:
                self.assertEqual(least_broken(rule, held), least_broken_parts(rule, in_order), rule)

    def test_order(self):
        runs_alone = each(read_machine(S, "machine 1\nstanding a\n0 a\n1 b\n# a\nstanding b end\n? b\n"))
        rule = both(S, runs_alone | same(S, "s"), same(S))
        self.assertEqual(least_broken(rule, [("1",), ("0",), (), ("1", "1"), ("0", "0")]),
                         [[(), ("0",)], [(), ("1",)], [(), ("0", "0")], [(), ("1", "1")], [("0",), ("1",)],
                          [("0",), ("0", "0")], [("0",), ("1", "1")], [("1",), ("0", "0")], [("1",), ("1", "1")],
                          [("0", "0"), ("1", "1")]])
        found = least_broken(both(S, each(ENDS_IN_ONE), same(S)), [("1",), ("1", "1"), ("0",)])
        self.assertEqual(found, [[("0",)], [("1",), ("1", "1")]])

    def test_few_and_none(self):
        lot = [("0",), ("1",), ("0", "0")]
        self.assertEqual(least_broken(all_rule(S), lot), [])
        self.assertEqual(least_broken(none_rule(S), lot), [[run] for run in lot])
        self.assertEqual(least_broken(none_rule(S), []), [])

    def test_new_lists(self):
        lot = [("0",), ()]
        rule = same(S)
        found = least_broken(rule, lot)
        found[0].clear()
        self.assertEqual(least_broken(rule, lot), [[(), ("0",)]])
        self.assertEqual(lot, [("0",), ()])


class RunKeepsTest(Case):
    def test_run_keeps(self):
        for seed in range(60):
            rule = some_rule(S, seed)
            for run in runs(S, 2):
                self.assertIs(run_keeps(rule, run), keeps(rule, [run]))

    def test_errors(self):
        ten = beside([("0",) * length for length in range(10)], all_rule(S))
        self.fails(BadRun, (0,), run_keeps, ten, ("2",))
        self.fails(TooMany, ("runs", 11), run_keeps, ten, ("0",))


class ErrorsTest(Case):
    def test_runs(self):
        lot = [("0",) * length for length in range(10)]
        self.assertTrue(lot_keeps(all_rule(S), lot + lot[:3]))
        self.assertEqual(least_broken(all_rule(S), lot + lot), [])
        self.fails(TooMany, ("runs", 11), lot_keeps, all_rule(S), lot + lot + [("1",)])
        self.fails(TooMany, ("runs", 12), least_broken, all_rule(S), lot + [("1",), ("1", "1")])

    def test_told_runs_count(self):
        rule = beside([("0",), ("1",)], all_rule(S))
        lot = [("0",) * length for length in range(8)]
        self.assertTrue(lot_keeps(rule, lot))
        # a told run counts, also if it is in the lot
        self.fails(TooMany, ("runs", 11), lot_keeps, rule & all_rule(S), lot + [("1", "1")])
        self.fails(TooMany, ("runs", 11), lot_keeps, rule, lot + [("1",)])
        self.fails(TooMany, ("runs", 12), least_broken, rule & rule, lot)

    def test_bad_run_comes_first(self):
        lot = [("0",) * length for length in range(12)]
        for call in (lot_keeps, least_broken):
            self.fails(BadRun, (12,), call, all_rule(S), lot + [("2",), ("",)])
            self.fails(BadRun, (0,), call, all_rule(S), [("0", "#")] + lot)

    def test_tuples_and_order(self):
        for lot in itertools.permutations([("0",), (), ("1",)]):
            self.assertEqual(least_broken(same(S), lot), [[(), ("0",)], [(), ("1",)]])


if __name__ == "__main__":
    unittest.main()
