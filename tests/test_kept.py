import random
import unittest

from fewbreak.besides import beside
from fewbreak.combine import any_row, joined, no_row
from fewbreak.errors import TooMany, UnlikeParts, UnlikeTapes
from fewbreak.follows import follows
from fewbreak.kept import alone, clash, keeps
from fewbreak.least import least
from fewbreak.letters import Letters, read_letters
from fewbreak.machinetexts import read_machine
from fewbreak.meaning import run_keeps
from fewbreak.rules import all_rule, bar, both, each, few, gives, led, none_rule, same
from fewbreak.runs import read_lot
from plain import (IO, ONE, S, SIXTEEN, THREE, LotsCase, against, five, machine_of, runs, some_lot, some_machine,
                   some_rule, zero)
import plain

BACK = Letters(("s", "10"))
ENDS_IN_ONE = read_machine(S, "machine 1\nstanding a\n1 b\n0 a\nstanding b end\n1 b\n0 a\n")
ALPHABETS = (ONE, S, S, THREE, IO)


def drawn(seed):
    """A machine and a rule."""
    letters = ALPHABETS[seed % 5]
    machine = some_machine(letters, 1, seed % 4 + 1, seed)
    if seed % 3 == 0:
        machine = machine_of(letters, some_lot(letters, random.Random(seed), 5))
    return machine, some_rule(letters, seed + 50, deep=seed % 3, most=4 if seed % 4 == 0 else 3)


def clashes(machine, rule):
    """Whether the lots of rows are least broken, of two runs or more, and within the lot of a machine."""

    def demand(row):
        lot = sorted(set(row))
        if len(lot) < 2 or plain.keeps(rule, lot) or not all(machine.takes([run]) for run in lot):
            return False
        return all(plain.keeps(rule, [other for other in lot if other != run]) for run in lot)

    return demand


class KeepsTest(LotsCase):
    def test_against_all_short_lots(self):
        found = [0, 0]
        for seed in range(250):
            machine, rule = drawn(seed)
            lot = keeps(machine, rule)
            self.assertEqual(lot, follows([each(machine)], rule))
            self.is_first(lot, rule.letters, against([each(machine)], rule), rule.number)
            found[lot is None] += 1
            if lot is not None:
                self.assertTrue(all(machine.takes([run]) for run in lot))
        self.assertGreater(min(found), 50)

    def test_order_of_lots(self):
        everything = any_row(IO, 1)
        self.assertEqual(keeps(everything, same(IO, "in")), [(), ("00",)])
        self.assertEqual(keeps(everything, led(IO, ["in"], ["out"])), [("00",), ("01",)])
        self.assertEqual(keeps(machine_of(IO, read_lot(IO, "01.00 00 01.11")), led(IO, ["in"], ["out"])),
                         [("00",), ("01", "00")])
        self.assertIsNone(keeps(machine_of(IO, read_lot(IO, "01.00 01.11")), led(IO, ["in"], ["out"])))
        # the order of the tapes of the first row need not be the order of runs
        self.assertEqual(keeps(any_row(S, 1), gives(each(ENDS_IN_ONE), same(S, "s"))), [("0", "1"), ("1",)])

    def test_no_runs(self):
        for rule in (none_rule(S), same(S), bar(any_row(S, 3)), each(no_row(S, 1))):
            self.assertIsNone(keeps(no_row(S, 1), rule))
            self.assertIsNone(clash(no_row(S, 1), rule))

    def test_machines_that_are_not_least(self):
        doubled = read_machine(S, "machine 1\nstanding a end\n? b\nstanding b end\n? a\n")
        self.assertEqual(keeps(doubled, same(S, "s")), [(), ("0",)])
        self.assertEqual(keeps(doubled, none_rule(S)), [()])

    def test_long_rules(self):
        for many, forms in ((12, 37), (13, 40)):
            rule = both(IO, *[gives(same(IO, "in"), same(IO, "out"))] * many)
            self.assertEqual(rule.forms, forms)
            self.assertEqual(keeps(any_row(IO, 1), rule), [("00",), ("01",)])
            self.assertEqual(clash(any_row(IO, 1), rule), [("00",), ("01",)])
            self.assertEqual(alone(rule), any_row(IO, 1))
        deep = same(S, "s")
        for at in range(38):
            deep = few(at % 3 + 2, deep) if at % 2 else gives(all_rule(S), deep) if at % 4 else few(9, deep)
            if deep.forms >= 36:
                self.assertEqual(keeps(any_row(S, 1), deep), [(), ("0",)])
                self.assertEqual(clash(any_row(S, 1), deep), [(), ("0",)])
                break
        self.assertGreaterEqual(deep.forms, 36)

    def test_beside_told_runs(self):
        rule = beside(read_lot(IO, "00 11"), gives(same(IO, "in"), same(IO, "out")))
        self.assertEqual(keeps(any_row(IO, 1), rule), [("01",)])
        self.assertIsNone(keeps(machine_of(IO, read_lot(IO, "00 11 01.00")), rule))
        self.assertEqual(clash(any_row(IO, 1), rule), [("00", "00"), ("00", "01")])
        ten = beside([("0",) * many for many in range(10)], led(S, ["s"], ["s"]) & few(1, all_rule(S)))
        self.assertEqual(ten.told_runs, 10)
        self.assertIsNone(keeps(any_row(S, 1), ten))
        ten = beside([("0",) * many for many in range(10)], each(machine_of(S, [("0",) * many for many in range(10)])))
        self.assertEqual(keeps(any_row(S, 1), ten), [("1",)])


class AloneTest(LotsCase):
    def test_against_run_keeps(self):
        found = [0, 0]
        for seed in range(200):
            rule = some_rule(ALPHABETS[seed % 5], seed, deep=seed % 3, most=4)
            machine = alone(rule)
            self.assertEqual(machine.tapes, 1)
            if machine.standings <= 12:
                self.lacks_faults(machine)
            self.assertEqual(machine, least(machine))
            for run in runs(rule.letters, 3 if len(rule.letters) < 3 else 2):
                self.assertIs(machine.takes([run]), run_keeps(rule, run))
                found[machine.takes([run])] += 1
        self.assertGreater(min(found), 300)

    def test_small(self):
        self.assertEqual(alone(none_rule(S)), no_row(S, 1))
        self.assertEqual(alone(same(S, "s")), any_row(S, 1))
        self.assertEqual(alone(each(ENDS_IN_ONE)), least(ENDS_IN_ONE))
        self.assertEqual(alone(few(0, none_rule(S))), any_row(S, 1))
        self.assertEqual(alone(beside([()], same(S, "s"))), machine_of(S, [()]))

    def test_room_for_one_tape(self):
        self.assertEqual(alone(five(SIXTEEN)), any_row(SIXTEEN, 1))
        self.fails(TooMany, ("tapes", 5), alone, beside([], five(S)))
        self.fails(TooMany, ("tapes", 5), alone, zero(S))
        self.fails(TooMany, ("columns", 17 ** 4 - 1), alone, beside([], same(SIXTEEN) | same(SIXTEEN)))


class ClashTest(LotsCase):
    def test_against_all_short_lots(self):
        found = [0, 0]
        for seed in range(250):
            machine, rule = drawn(seed)
            lot = clash(machine, rule)
            self.is_first(lot, rule.letters, clashes(machine, rule), rule.number)
            found[lot is None] += 1
        self.assertGreater(min(found), 30)

    def test_clashes_behind_broken_runs(self):
        """A run that breaks a rule alone comes ahead for keeps, and is no part of a clash."""
        rule = each(ENDS_IN_ONE) & same(S, "s")
        self.assertEqual(keeps(any_row(S, 1), rule), [()])
        self.assertEqual(clash(any_row(S, 1), rule), [("0", "1"), ("1",)])
        self.assertIsNone(clash(any_row(S, 1), each(ENDS_IN_ONE)))
        self.assertIsNone(clash(any_row(S, 1), none_rule(S) & same(S, "s")))

    def test_one_greatest_kept_part(self):
        """Without a clash, the runs that keep the rule alone are the greatest kept part."""
        for seed in range(60):
            lot = some_lot(S, random.Random(seed), 5)
            rule = some_rule(S, seed, deep=1)
            machine = machine_of(S, lot)
            ordered = plain.in_order(S, lot)
            self.assertIs(clash(machine, rule) is None, len(plain.greatest_parts(rule, ordered)) == 1)

    def test_three_and_four_runs(self):
        lengths = read_machine(ONE, "machine 4\nstanding a\n# 0 0 0 b\nstanding b\n# # 0 0 c\nstanding c\n# # # 0 d\n"
                                    "standing d end\n")
        four = [(), ("0",), ("0", "0"), ("0", "0", "0")]
        self.assertEqual(clash(any_row(ONE, 1), bar(lengths)), four)
        self.assertEqual(clash(machine_of(ONE, four), bar(lengths)), four)
        for left in four:
            self.assertIsNone(clash(machine_of(ONE, [run for run in four if run != left]), bar(lengths)))


class ErrorsTest(LotsCase):
    def test_in_order(self):
        for call in (keeps, clash):
            self.fails(UnlikeTapes, (2, 1), call, any_row(BACK, 2), five(S))
            self.fails(UnlikeTapes, (4, 1), call, any_row(S, 4), five(S))
            self.fails(UnlikeParts, ("s:01", "s:10"), call, any_row(BACK, 1), five(S))
            self.fails(UnlikeParts, ("in:01 out:01", "s:01"), call, any_row(S, 1), zero(IO))
            self.fails(TooMany, ("tapes", 5), call, any_row(S, 1), five(S))
            self.fails(TooMany, ("tapes", 5), call, any_row(S, 1), few(1, beside([], five(S))))
            self.fails(TooMany, ("columns", 17 ** 3 - 1), call, any_row(SIXTEEN, 1), same(SIXTEEN) | none_rule(SIXTEEN))
            self.fails(TooMany, ("columns", 10 ** 4 - 1), call, any_row(S, 1),
                       few(2, beside([], same(S) | same(S)) & nine_letters_seen()))

    def test_number_0(self):
        for rule in (zero(S), all_rule(S), few(0, beside([], five(S)))):
            self.assertIsNone(keeps(any_row(S, 1), rule))
            self.assertIsNone(clash(any_row(S, 1), rule))
        self.assertIsNone(keeps(any_row(SIXTEEN, 1), zero(SIXTEEN)))
        self.fails(UnlikeTapes, (2, 1), keeps, any_row(S, 2), zero(S))
        self.fails(UnlikeParts, ("s:01", "s:10"), clash, any_row(BACK, 1), zero(S))

    def test_new_lists(self):
        machine, rule = any_row(S, 1), same(S, "s")
        keeps(machine, rule).clear()
        clash(machine, rule).clear()
        self.assertEqual(keeps(machine, rule), [(), ("0",)])
        self.assertEqual(clash(machine=machine, rule=rule), [(), ("0",)])
        self.assertEqual(joined(machine, alone(rule=rule)), any_row(S, 1))


def nine_letters_seen():
    """A rule over s:01 with a rule over nine letters within it."""
    nine = read_letters("a:012345678")
    return plain.carried(plain.Program(S, nine, [[("0", 0), ("1", 0)]], [True]), all_rule(nine))


if __name__ == "__main__":
    unittest.main()
