import random
import unittest

from fewbreak.besides import beside
from fewbreak.errors import BadRun, TooMany
from fewbreak.letters import Letters
from fewbreak.meaning import least_broken
from fewbreak.rules import all_rule, bar, each, gives, led, none_rule, same
from fewbreak.runs import read_lot
from fewbreak.told import greatest, staying, struck
from plain import (IO, ONE, S, THREE, Case, five, greatest_parts, in_order, keeps, machine_of, parts, runs, some_lot,
                   some_machine, some_rule)

LEADS = gives(same(IO, "in"), same(IO, "out"))
BACK = Letters(("s", "10"))


def drawn(seed):
    """A rule, and a lot in any order, perhaps with runs twice."""
    source = random.Random(seed)
    letters = (ONE, S, S, THREE, IO, BACK)[seed % 6]
    lot = some_lot(letters, source, 6)
    lot.extend(source.choices(lot, k=2) if lot else [])
    return some_rule(letters, seed, deep=seed % 3, most=9, tapes=3), lot


def struck_runs(rule, lot):
    """The fewest runs of a lot in order without which it keeps a rule; of those the ones with the least indexes."""
    for left_out in parts(lot):
        if keeps(rule, [run for run in lot if run not in left_out]):
            return list(left_out)
    return None


class ToldTest(Case):
    def test_against_all_parts(self):
        sizes = set()
        for seed in range(300):
            rule, lot = drawn(seed)
            ordered = in_order(rule.letters, lot)
            kept = greatest_parts(rule, ordered)
            sizes.add(len(kept))
            self.assertEqual(greatest(rule, lot), kept)
            self.assertEqual(struck(rule, lot), struck_runs(rule, ordered))
            self.assertEqual(staying(rule, lot), [run for run in ordered if all(run in part for part in kept)])
            broken = [run for part in least_broken(rule, lot) for run in part]
            self.assertEqual(staying(rule, lot), [run for run in ordered if run not in broken])
        self.assertGreater(len(sizes), 5)

    def test_example(self):
        lot = read_lot(IO, "00 01 10")
        self.assertEqual(greatest(LEADS, lot), [[("00",), ("10",)], [("01",), ("10",)]])
        self.assertEqual(struck(LEADS, lot), [("00",)])
        self.assertEqual(staying(LEADS, lot), [("10",)])
        for order in (lot[::-1], lot + lot[:2], tuple(lot[1:] + lot)):
            self.assertEqual(greatest(LEADS, order), [[("00",), ("10",)], [("01",), ("10",)]])
            self.assertEqual(struck(LEADS, order), [("00",)])
            self.assertEqual(staying(LEADS, order), [("10",)])

    def test_empty_lot(self):
        for rule in (none_rule(S), all_rule(S), same(S), beside([("0",)], same(S, "s"))):
            self.assertEqual(greatest(rule, []), [[]])
            self.assertEqual(struck(rule, ()), [])
            self.assertEqual(staying(rule, []), [])

    def test_no_run_keeps_the_rule(self):
        lot = [(), ("1",), ("0",)]
        self.assertEqual(greatest(none_rule(S), lot), [[]])
        self.assertEqual(struck(none_rule(S), lot), [(), ("0",), ("1",)])
        self.assertEqual(staying(none_rule(S), lot), [])

    def test_order(self):
        # more runs first; then by the indexes of the runs
        lot = read_lot(IO, "00 01 00.00 00.01 01.00 10 11.11")
        self.assertEqual(greatest(same(IO, "in"), lot), [read_lot(IO, text) for text in (
            "00.00 00.01 01.00", "00 01", "10", "11.11")])
        self.assertEqual(struck(same(IO, "in"), lot), read_lot(IO, "00 01 10 11.11"))
        self.assertEqual(greatest(same(IO), lot), [read_lot(IO, text) for text in (
            "00.00 00.01 01.00 11.11", "00 01 10")])
        # the order of the letters counts, not that of the signs
        self.assertEqual(greatest(same(BACK, "s"), [("0",), ("1",)]), [[("1",)], [("0",)]])
        self.assertEqual(struck(same(BACK, "s"), [("0",), ("1",)]), [("1",)])

    def test_struck_may_belong_to_a_later_part(self):
        """The struck runs have the least indexes, also where the part that is left has not the least ones."""
        lot = read_lot(S, "0 1")
        self.assertEqual(greatest(same(S, "s"), lot), [[("0",)], [("1",)]])
        self.assertEqual(struck(same(S, "s"), lot), [("0",)])

    def test_ten_and_eleven_runs(self):
        ten = [("0",) * many for many in range(10)]
        bad = [("2",)]
        for call, wanted in ((greatest, [ten]), (struck, []), (staying, ten)):
            self.assertEqual(call(led(S, [], ["s"]), ten + ten), wanted)
            self.fails(TooMany, ("runs", 11), call, led(S, [], ["s"]), ten + [("1",)])
            self.fails(TooMany, ("runs", 11), call, none_rule(S) | beside([()], all_rule(S)), ten)
            self.fails(BadRun, (12,), call, led(S, [], ["s"]), ten + [("1",), ("1", "1")] + bad + bad)
            self.fails(BadRun, (0,), call, five(S), bad)
        nine = beside([()], led(S, [], ["s"]))
        self.assertEqual(greatest(nine, ten[:9]), [ten[:9]])
        self.fails(TooMany, ("runs", 11), greatest, nine & nine, ten[:9])
        # numbers of rules and tapes mean nothing here
        self.assertEqual(staying(five(S), ten[:2]), [])
        self.assertEqual(greatest(bar(some_machine(ONE, 4, 1, 1)), [()]), greatest_parts(
            bar(some_machine(ONE, 4, 1, 1)), [()]))

    def test_ten_runs_against_all_parts(self):
        for seed in range(4):
            lot = in_order(S, random.Random(seed).sample(runs(S, 3), 8))
            rule = some_rule(S, seed, deep=1) & each(machine_of(S, lot[1:]))
            self.assertEqual(greatest(rule, lot), greatest_parts(rule, lot))
            self.assertEqual(struck(rule, lot), struck_runs(rule, lot))

    def test_new_lists(self):
        lot = read_lot(IO, "01 00")
        found = greatest(LEADS, lot)
        found[0].clear()
        found.clear()
        struck(LEADS, lot).clear()
        staying(LEADS, lot).clear()
        self.assertEqual(lot, read_lot(IO, "01 00"))
        self.assertEqual(greatest(lot=lot, rule=LEADS), [[("00",)], [("01",)]])
        self.assertEqual(struck(lot=lot, rule=LEADS), [("00",)])
        self.assertEqual(staying(lot=lot, rule=all_rule(IO)), lot)


if __name__ == "__main__":
    unittest.main()
