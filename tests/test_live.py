import random
import unittest

from fewbreak.besides import beside
from fewbreak.errors import BadRun, HeldTwice, NotHeld, TooMany, UnlikeParts
from fewbreak.letters import Letters
from fewbreak.live import Live
from fewbreak.meaning import least_broken, lot_keeps
from fewbreak.rules import all_rule, gives, led, none_rule, same
from fewbreak.runs import read_lot
from fewbreak.told import greatest, staying, struck
from plain import IO, S, THREE, Case, five, in_order, runs, some_rule

LEADS = gives(same(IO, "in"), same(IO, "out"))
BACK = Letters(("s", "10"))
TEN = [("0",) * many for many in range(10)]


class LiveTest(Case):
    def agrees(self, live, rule, held):
        """A live lot tells just what the functions tell of a rule and a lot."""
        lot = in_order(rule.letters, held)
        self.assertEqual(live.rule, rule)
        self.assertEqual((live.many, len(live), live.told()), (len(lot), len(lot), lot))
        self.assertIs(bool(live), True)
        self.assertIs(live.stands(), lot_keeps(rule, lot))
        self.assertEqual(live.broken_parts(), least_broken(rule, lot))
        self.assertEqual(live.greatest_parts(), greatest(rule, lot))
        self.assertEqual(live.struck_runs(), struck(rule, lot))
        self.assertEqual(live.staying_runs(), staying(rule, lot))
        for run in runs(rule.letters, 1) + [("9",), ("0", "9")]:
            self.assertIs(run in live, run in lot)

    def expected(self, rule, held, word, values):
        """The error that a call must raise, as a class and its values, or None; and the runs behind the call."""
        letters = rule.letters
        good = [all(letters.is_letter(letter) for letter in run) for run in values]
        if not all(good):
            return (BadRun, (good.index(False),)), held
        if word in ("take_out", "change") and values[0] not in held:
            return (NotHeld, (values[0],)), held
        if word in ("put_in", "change") and values[-1] in held:
            return (HeldTwice, (values[-1],)), held
        many = len(held) + 1 + rule.told_runs
        if word == "put_in" and many > 10:
            return (TooMany, ("runs", many)), held
        left = [run for run in held if word == "put_in" or run != values[0]]
        return None, left + ([values[-1]] if word != "take_out" else [])

    def test_drawn_series(self):
        raised = set()
        for seed in range(60):
            source = random.Random(seed)
            letters = (S, IO, THREE, BACK)[seed % 4]
            rule = some_rule(letters, seed, deep=seed % 3, most=4)
            choices = runs(letters, 2)[:9] + [("0", "9"), ("9",)]
            held = source.sample(choices[:-2], 3)
            live = Live(rule, held + held[:1])
            for at in range(30):
                word = source.choice(["put_in", "put_in", "take_out", "change", "set_rule"])
                if word == "set_rule":
                    new = some_rule(source.choice([letters, letters, S]), seed * 100 + at, deep=1, most=4)
                    if new.letters != letters:
                        self.fails(UnlikeParts, (str(letters), str(new.letters)), live.set_rule, new)
                    else:
                        self.assertIsNone(live.set_rule(new))
                        rule = new
                else:
                    values = [source.choice(choices) for _ in range(2 if word == "change" else 1)]
                    error, held = self.expected(rule, held, word, values)
                    if error is None:
                        self.assertIsNone(getattr(live, word)(*values))
                    else:
                        raised.add((word, error[0].__name__))
                        self.fails(error[0], error[1], getattr(live, word), *values)
                if at % 5 == 0 or len(held) < 6:
                    self.agrees(live, rule, held)
        self.assertGreater(len(raised), 6)

    def test_example(self):
        live = Live(LEADS, read_lot(IO, "10 01 00"))
        self.assertEqual(live.broken_parts(), [[("00",), ("01",)]])
        self.assertEqual(live.greatest_parts(), [[("00",), ("10",)], [("01",), ("10",)]])
        self.assertEqual((live.struck_runs(), live.staying_runs(), live.stands()), ([("00",)], [("10",)], False))
        live.take_out(("00",))
        self.assertEqual((live.struck_runs(), live.staying_runs(), live.stands()), ([], [("01",), ("10",)], True))
        live.change(("10",), ("00",))
        self.assertEqual(live.told(), [("00",), ("01",)])
        live.set_rule(same(IO, "in"))
        self.assertTrue(live.stands())

    def test_constructor(self):
        self.agrees(Live(none_rule(S)), none_rule(S), [])
        self.agrees(Live(rule=same(S, "s"), lot=(("1",), (), ("1",))), same(S, "s"), [("1",), ()])
        self.fails(BadRun, (11,), Live, five(S), TEN + [("1",), ("2",), ("x",)])
        self.fails(TooMany, ("runs", 11), Live, five(S), TEN + [("1",)])
        self.fails(TooMany, ("runs", 11), Live, beside([(), ("1",)], all_rule(S)), TEN[:9])
        self.assertEqual(len(Live(beside([(), ("1",)], all_rule(S)), TEN[:8])), 8)
        self.assertEqual(Live(five(S), TEN * 2).many, 10)

    def test_an_empty_live_lot_is_true(self):
        live = Live(none_rule(S))
        self.assertEqual((len(live), bool(live)), (0, True))
        live.put_in(())
        live.take_out(())
        self.assertEqual((len(live), bool(live)), (0, True))

    def test_errors_of_put_in(self):
        live = Live(five(S), TEN)
        self.fails(BadRun, (0,), live.put_in, ("0", "2"))
        self.fails(HeldTwice, (("0",),), live.put_in, ("0",))
        self.fails(TooMany, ("runs", 11), live.put_in, ("1",))
        told = Live(beside([()], all_rule(S)), TEN[:9])
        # a told run of the rule is no run of the lot
        self.fails(TooMany, ("runs", 11), told.put_in, ("1",))
        self.fails(HeldTwice, ((),), told.put_in, ())
        self.assertEqual((live.told(), told.told()), (TEN, TEN[:9]))

    def test_errors_of_take_out_and_change(self):
        live = Live(five(S), TEN)
        self.fails(BadRun, (0,), live.take_out, ("2",))
        self.fails(NotHeld, (("1",),), live.take_out, ("1",))
        self.fails(BadRun, (0,), live.change, ("2",), ("2",))
        self.fails(BadRun, (1,), live.change, ("1",), ("2",))
        self.fails(NotHeld, (("1",),), live.change, ("1",), ("0",))
        self.fails(NotHeld, (("1",),), live.change, ("1",), ("1",))
        self.fails(HeldTwice, (("0",),), live.change, ("0", "0"), ("0",))
        self.fails(HeldTwice, (("0",),), live.change, ("0",), ("0",))
        self.assertEqual(live.told(), TEN)
        # a full lot may be changed
        live.change(old=(), new=("1",))
        self.assertEqual(live.told(), [("0",), ("1",)] + TEN[2:])

    def test_errors_of_set_rule(self):
        live = Live(five(S), TEN[:9])
        told = [beside(TEN[:many], all_rule(letters)) for letters, many in ((S, 1), (S, 2))]
        self.fails(UnlikeParts, ("s:01", "s:10"), live.set_rule, beside([(), ("1",)], all_rule(BACK)))
        self.fails(UnlikeParts, ("s:01", "in:01 out:01"), live.set_rule, all_rule(IO))
        self.fails(TooMany, ("runs", 11), live.set_rule, told[1])
        self.assertEqual(live.rule, five(S))
        live.set_rule(rule=told[0])
        self.fails(TooMany, ("runs", 11), live.put_in, ("1",))
        live.change(("0",), ("1",))
        self.assertTrue(live.stands())
        live.take_out(run=())
        live.put_in(run=("0",))
        self.assertEqual(live.many, 9)

    def test_lists_are_its_own(self):
        lot = [("0",), ("1",)]
        live = Live(led(S, [], ["s"]), lot)
        lot.append(())
        live.told().clear()
        for found in (live.broken_parts(), live.greatest_parts()):
            found[0].clear()
            found.clear()
        live.struck_runs().clear()
        live.staying_runs().clear()
        self.agrees(live, led(S, [], ["s"]), [("0",), ("1",)])


if __name__ == "__main__":
    unittest.main()
