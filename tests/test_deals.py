import random
import unittest

from fewbreak.besides import beside
from fewbreak.deals import deal, dealt
from fewbreak.errors import BadRun, HeldTwice, TooMany, UnknownPart
from fewbreak.follows import follows
from fewbreak.letters import Letters
from fewbreak.ranks import ladder
from fewbreak.rules import all_rule, both, either, few, gives, led, none_rule, same
from fewbreak.runs import read_lot
from plain import IO, S, SIXTEEN, LotsCase, against, keeps, runs, some_rule


def five(letters):
    return either(same(letters), same(letters), none_rule(letters))


class DealtTest(LotsCase):
    def test_against_all_short_lots(self):
        found = [0, 0]
        for seed in range(120):
            letters = (S, IO, Letters(("v", "01"), ("w", "0")))[seed % 3]
            names = random.Random(seed).sample(letters.names, seed % (len(letters.names) + 1))
            rule = some_rule(letters, seed, deep=seed % 3)
            before = gives(same(letters, *names), rule)
            lot = dealt(rule, names)
            found[lot is None] += 1
            self.assertEqual(lot, follows([before], rule))
            self.is_first(lot, letters, against([before], rule), rule.number)
            if lot is not None:
                self.assertTrue(all(keeps(rule, part) for part in deal(letters, lot, names)))
                self.assertFalse(keeps(rule, lot))
        self.assertGreater(min(found), 20)

    def test_examples(self):
        rule = gives(same(IO, "in"), same(IO, "out"))
        self.assertIsNone(dealt(rule, ["in"]))
        self.assertEqual(dealt(rule, ["out"]), [("00",), ("01",)])
        self.assertIsNone(dealt(rule, []))
        self.assertIsNone(dealt(rule, ("in",)))
        self.assertEqual(dealt(led(IO, ["in"], ["out"]), ["in"]), [("00",), ("01", "00")])
        self.assertEqual(dealt(same(IO), []), [(), ("00",)])
        self.assertIsNone(dealt(none_rule(IO), ["in", "out"]))
        self.assertIsNone(dealt(all_rule(IO), ["out", "in"]))

    def test_least_broken_lots_are_in_one_deal(self):
        for seed in range(40):
            rule = some_rule(IO, seed, deep=1)
            if dealt(rule, ["in"]) is None:
                for lot in ladder(rule):
                    broken = [part for part in deal(IO, lot, ["in"]) if not keeps(rule, part)]
                    self.assertEqual(len(broken), 1)

    def test_rule_of_forty_forms(self):
        rule = both(IO, *[gives(same(IO, "in"), same(IO, "out"))] * 13)
        self.assertEqual(rule.forms, 40)
        self.assertIsNone(dealt(rule, ["in"]))
        self.assertEqual(dealt(rule, ["out"]), [("00",), ("01",)])

    def test_errors_in_order(self):
        self.fails(UnknownPart, ("x",), dealt, five(IO), ["in", "in", "x", "y"])
        self.fails(HeldTwice, ("in",), dealt, five(IO), ["out", "in", "in", "out"])
        self.fails(TooMany, ("tapes", 5), dealt, five(IO), ["in"])
        self.fails(TooMany, ("tapes", 5), dealt, few(1, beside([], five(S))), [])
        self.fails(TooMany, ("columns", 17 ** 3 - 1), dealt, same(SIXTEEN) | none_rule(SIXTEEN), ["a"])
        self.assertIsNone(dealt(few(0, beside([], five(S))), []))


class DealTest(LotsCase):
    def test_deal(self):
        lot = [("11",), ("00",), ("01",), (), ("10", "00"), ("00", "10"), ("11", "01"), ("01",)]
        self.assertEqual(deal(IO, lot, ["in"]), [[()], read_lot(IO, "00 01"), read_lot(IO, "11"), read_lot(IO, "00.10"),
                                                 read_lot(IO, "10.00 11.01")])
        self.assertEqual(deal(IO, lot, []), [[()], read_lot(IO, "00 01 11"), read_lot(IO, "00.10 10.00 11.01")])
        self.assertEqual(deal(IO, lot, ["out", "in"]), [[run] for run in read_lot(IO, "- 00 01 11 00.10 10.00 11.01")])
        self.assertEqual(deal(IO, [], ["in"]), [])

    def test_orders_and_duplicates(self):
        source = random.Random(8)
        for _ in range(30):
            lot = source.choices(runs(IO, 2), k=source.randint(0, 9))
            for names in ([], ["in"], ["out"], ["out", "in"], ("in",)):
                self.assertEqual(deal(IO, lot, names), deals_plainly(lot, names))

    def test_by_first_runs_in_the_order_of_the_letters(self):
        letters = Letters(("a", "10"), ("b", "10"))
        found = deal(letters, [("00",), ("01",), ("10",), ("11",)], ["b"])
        self.assertEqual(found, [[("11",), ("01",)], [("10",), ("00",)]])

    def test_new_lists(self):
        lot = [("00",), ()]
        found = deal(IO, lot, [])
        found[0].clear()
        found.clear()
        self.assertEqual(lot, [("00",), ()])
        self.assertEqual(deal(IO, lot, []), [[()], [("00",)]])

    def test_errors_in_order(self):
        self.fails(UnknownPart, ("x",), deal, IO, [("2",)], ["in", "in", "x"])
        self.fails(HeldTwice, ("in",), deal, IO, [("2",)], ["in", "out", "in"])
        self.fails(BadRun, (1,), deal, IO, [("00",), ("2",), ("x",)], ["in"])


def deals_plainly(lot, names):
    """The deals of a lot, put together run by run."""
    held = [run for run in runs(IO, 2) if run in lot]
    found = []
    for run in held:
        look = [IO.seen(letter, names) for letter in run]
        for part in found:
            if [IO.seen(letter, names) for letter in part[0]] == look:
                part.append(run)
                break
        else:
            found.append([run])
    return found


if __name__ == "__main__":
    unittest.main()
