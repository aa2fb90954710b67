import unittest

from fewbreak.besides import beside
from fewbreak.errors import BadNumber, HeldTwice, TooMany, UnknownPart, UnlikeParts, UnlikeTapes
from fewbreak.looks import look
from fewbreak.machines import Machine
from fewbreak.programs import Program
from fewbreak.rules import Rule, all_rule, bar, both, carried, each, either, few, gives, led, none_rule, same
from plain import Case, IO, S, SIXTEEN, some_machine, some_program

ALL = all_rule(IO)
NONE = none_rule(IO)
ONE_TAPE = some_machine(IO, 1, 2, 1).named("one")
TWO_TAPES = some_machine(IO, 2, 2, 1).named("two")
LOOK = look(IO, ["in"])
TOLD = [("00", "01"), (), ("10",), ()]
EMPTY = {"rules": (), "machine": None, "program": None, "before": None, "after": None, "lot": None, "most": None}


def with_forms(letters, many):
    """A rule with so many forms."""
    return both(letters, *[all_rule(letters)] * (many - 1))


def with_told_runs(letters, many):
    """A rule with so many told runs."""
    return beside([("0",) * length for length in range(many)], all_rule(letters))


class KindsTest(Case):
    def looks_so(self, rule, text, number, forms, told_runs, **more):
        self.assertIs(type(rule), Rule)
        self.assertEqual(str(rule), text)
        self.assertEqual(repr(rule), "Rule(" + text + ")")
        self.assertEqual(rule.kind, text.partition("(")[0])
        self.assertEqual((rule.number, rule.forms, rule.told_runs), (number, forms, told_runs))
        for name, value in {**EMPTY, "letters": IO, **more}.items():
            self.assertEqual(getattr(rule, name), value, name)
            self.assertIs(type(getattr(rule, name)), type(value), name)

    def test_all_attributes(self):
        pair = (NONE, same(IO, "in"))
        self.looks_so(ALL, "all", 0, 1, 0)
        self.looks_so(NONE, "none", 1, 1, 0)
        self.looks_so(each(ONE_TAPE), "each(one)", 1, 1, 0, machine=ONE_TAPE)
        self.looks_so(bar(TWO_TAPES), "bar(two)", 2, 1, 0, machine=TWO_TAPES)
        self.looks_so(same(IO, "out", "in"), "same(in,out)", 2, 1, 0, before=("in", "out"), after=())
        self.looks_so(led(IO, ["in"], ["out"]), "led(in;out)", 2, 1, 0, before=("in",), after=("out",))
        self.looks_so(both(IO, *pair), "both(none,same(in))", 2, 3, 0, rules=pair)
        self.looks_so(either(*pair), "either(none,same(in))", 3, 3, 0, rules=pair)
        self.looks_so(gives(*pair), "gives(none,same(in))", 2, 3, 0, rules=pair)
        self.looks_so(few(1, pair[1]), "few(1,same(in))", 1, 2, 0, rules=pair[1:], most=1)
        made = carried(LOOK, same(LOOK.write, "in"))
        self.looks_so(made, "carried(made,same(in))", 2, 2, 0, program=LOOK, rules=(same(LOOK.write, "in"),))
        self.looks_so(beside(TOLD, ALL), "beside(- 10 00.01,all)", 0, 2, 3, rules=(ALL,),
                      lot=((), ("10",), ("00", "01")))

    def test_texts_of_few_items(self):
        for rule, text in ((same(IO), "same()"), (led(IO, [], ["out"]), "led(;out)"), (led(IO, ["in"], []), "led(in;)"),
                           (led(IO, (), ()), "led(;)"), (both(IO), "both()"), (either(NONE), "either(none)"),
                           (beside([], ALL), "beside(,all)"), (beside([()], ALL), "beside(-,all)"),
                           (few(0, few(9, NONE)), "few(0,few(9,none))"),
                           (led(SIXTEEN, ["d", "a"], ["c", "b", "a"]), "led(a,d;a,b,c)"),
                           (gives(both(IO, NONE), either(ALL, NONE)), "gives(both(none),either(all,none))")):
            self.assertEqual(str(rule), text)

    def test_kinds(self):
        self.assertEqual(Rule.KINDS, ("all", "none", "each", "bar", "same", "led", "both", "either", "gives", "few",
                                      "carried", "beside"))
        self.assertIs(ALL.KINDS, Rule.KINDS)

    def test_numbers(self):
        two, one, nil = same(IO), NONE, ALL
        for rule, number in ((both(IO), 0), (both(IO, one, two, nil), 2), (either(one, two, two), 5),
                             (either(two, two, nil), 0), (either(nil), 0), (gives(two, one), 1), (gives(one, nil), 0),
                             (few(0, two), 0), (few(1, two), 1), (few(3, two), 2), (few(9, either(two, two)), 4),
                             (beside([()], two | two), 4),
                             (bar(some_machine(S, 4, 1, 1)), 4), (bar(some_machine(S, 1, 1, 1)), 1),
                             (same(IO), 2), (led(IO, [], []), 2), (carried(LOOK, none_rule(LOOK.write)), 1)):
            self.assertEqual(rule.number, number, rule)

    def test_forms_and_told_runs(self):
        held = beside([(), ("00",)], ALL)
        rule = gives(few(2, held), both(IO, held, carried(some_program(IO, IO, 1, 1), held)))
        self.assertEqual((rule.forms, rule.told_runs), (10, 6))
        self.assertEqual(beside([(), ("00",)], held).told_runs, 4)

    def test_passed_lists_may_change(self):
        before, after, lot = ["out"], ["in", "out"], [("10",), ()]
        rules = [NONE, ALL]
        made = (led(IO, before, after), beside(lot, ALL), Rule("both", IO, rules=rules))
        for one in (before, after, lot, rules):
            one.clear()
        self.assertEqual([str(one) for one in made], ["led(out;in,out)", "beside(- 10,all)", "both(none,all)"])
        self.assertEqual(made[2].rules, (NONE, ALL))

    def test_tuples(self):
        self.assertEqual(led(IO, ("in",), ("out",)), led(IO, ["in"], ["out"]))
        self.assertEqual(beside(((), ("00",)), ALL), beside([("00",), ()], ALL))


class EqualTest(Case):
    def test_equal(self):
        first, second = [[NONE, same(IO, "in"), same(IO, "in", "out"), led(IO, ["in"], []), led(IO, [], ["in"]), same(IO),
                          each(ONE_TAPE), bar(ONE_TAPE), bar(TWO_TAPES), both(IO), both(IO, NONE), either(NONE),
                          both(IO, NONE, ALL), both(IO, ALL, NONE), gives(NONE, ALL), few(1, NONE), few(2, NONE),
                          carried(some_program(IO, S, 2, 1), same(S)), carried(some_program(IO, S, 2, 2), same(S)),
                          beside([], ALL), beside([()], ALL), beside([("00",), ()], ALL), ALL, all_rule(S)]
                         for _ in range(2)]
        for at, one in enumerate(first):
            for other_at, other in enumerate(second):
                self.assertIs(one == other, at == other_at, (one, other))

    def test_names_of_things_mean_nothing(self):
        self.assertTrue(bar(TWO_TAPES) == bar(TWO_TAPES.named("other")))
        program = some_program(IO, S, 2, 3)
        other = Program(program.read, program.write, program.rows, program.ends, program_name="other")
        self.assertTrue(carried(program, same(S)) == carried(other, same(S)))
        self.assertNotEqual(str(bar(TWO_TAPES)), str(bar(TWO_TAPES.named("other"))))

    def test_alike_rules_may_be_unequal(self):
        self.assertFalse(both(IO, NONE) == NONE)
        self.assertFalse(each(Machine(IO, 1, [[0] * 4], [False])) == NONE)
        self.assertFalse(all_rule(S) == both(S))

    def test_other_classes(self):
        for other in ("all", None, 0, (), IO, ONE_TAPE):
            self.assertIs(ALL == other, False)
            self.assertIs(ALL != other, True)


class OperatorsTest(Case):
    def test_operators(self):
        one, other = NONE, same(IO, "in")
        self.assertEqual(one & other, both(IO, one, other))
        self.assertEqual(one | other, either(one, other))
        self.assertEqual(one >> other, gives(one, other))
        self.assertEqual(str(one & other | one >> other), "either(both(none,same(in)),gives(none,same(in)))")

    def test_errors(self):
        for call in (lambda one, other: one & other, lambda one, other: one | other, lambda one, other: one >> other):
            self.fails(UnlikeParts, ("in:01 out:01", "s:01"), call, ALL, all_rule(S))
            self.fails(TooMany, ("forms", 41), call, with_forms(S, 20), with_forms(S, 20))
            self.fails(TooMany, ("runs", 11), call, with_told_runs(S, 5), with_told_runs(S, 6))
            call(with_forms(S, 20), with_forms(S, 19))
            call(with_told_runs(S, 5), with_told_runs(S, 5))


class ErrorsTest(Case):
    def test_own_errors(self):
        self.fails(UnlikeTapes, (2, 1), each, TWO_TAPES)
        self.fails(UnknownPart, ("x",), same, IO, "in", "in", "x", "y")
        self.fails(HeldTwice, ("in",), same, IO, "out", "in", "in", "out")
        self.fails(UnknownPart, ("x",), led, IO, ["in", "in", "x"], ["y"])
        self.fails(HeldTwice, ("out",), led, IO, ["in", "out", "out"], ["y"])
        self.fails(UnknownPart, ("",), led, IO, ["in"], ["out", "out", ""])
        self.fails(HeldTwice, ("out",), led, IO, ["in"], ["out", "out"])
        self.assertEqual(str(led(IO, ["in"], ["in"])), "led(in;in)")
        for most in (-1, 10, 11):
            self.fails(BadNumber, (most,), few, most, with_forms(S, 40))
        self.fails(UnlikeParts, ("in:01", "in:01 out:01"), carried, LOOK, with_forms(IO, 40))

    def test_unlike_parts(self):
        texts = ("in:01 out:01", "s:01")
        self.fails(UnlikeParts, texts, both, IO, ALL, all_rule(S), all_rule(SIXTEEN))
        self.fails(UnlikeParts, texts, both, IO, with_forms(S, 40))
        self.fails(UnlikeParts, texts, either, ALL, ALL, all_rule(S), all_rule(SIXTEEN))
        self.fails(UnlikeParts, texts, gives, ALL, all_rule(S))
        self.fails(UnlikeParts, texts[::-1], gives, with_forms(S, 40), ALL)

    def test_forms(self):
        self.assertEqual(with_forms(S, 40).forms, 40)
        self.fails(TooMany, ("forms", 41), with_forms, S, 41)
        large = with_forms(S, 40)
        program = some_program(S, S, 1, 1)
        for call, args in ((both, (S, large)), (either, (large,)), (few, (9, large)), (carried, (program, large)),
                           (beside, ([], large))):
            self.fails(TooMany, ("forms", 41), call, *args)
        self.fails(TooMany, ("forms", 42), gives, large, all_rule(S))
        self.fails(TooMany, ("forms", 42), either, all_rule(S), large)

    def test_told_runs(self):
        self.assertEqual(with_told_runs(S, 10).told_runs, 10)
        self.fails(TooMany, ("runs", 11), with_told_runs, S, 11)
        one, ten = with_told_runs(S, 1), with_told_runs(S, 10)
        for call, args in ((both, (S, one, ten)), (either, (ten, one)), (gives, (ten, one)), (beside, ([()], ten))):
            self.fails(TooMany, ("runs", 11), call, *args)
        self.assertEqual(few(3, ten).told_runs, 10)
        self.assertEqual(carried(some_program(S, S, 1, 1), ten).told_runs, 10)

    def test_forms_ahead_of_told_runs(self):
        one, ten = with_told_runs(S, 1), with_told_runs(S, 10)
        forms = with_forms(S, 36)
        self.assertEqual(both(S, forms, all_rule(S), ten).forms, 40)
        self.fails(TooMany, ("forms", 41), both, S, forms, one, ten)
        self.fails(TooMany, ("runs", 11), both, S, with_forms(S, 35), one, ten)

    def test_constructor_looks_at_no_limit(self):
        rule = Rule("both", S, rules=[with_forms(S, 40), with_told_runs(S, 10), with_told_runs(S, 9)])
        self.assertEqual((rule.forms, rule.told_runs, rule.number), (45, 19, 0))
        self.assertEqual(Rule("few", S, rules=(none_rule(S),), most=12).number, 1)


if __name__ == "__main__":
    unittest.main()
