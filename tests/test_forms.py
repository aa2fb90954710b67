import unittest

from fewbreak.besides import beside
from fewbreak.broken import broken_rows
from fewbreak.errors import TooMany
from fewbreak.forms import Form, bar_of, form
from fewbreak.machinetexts import read_machine
from fewbreak.programtexts import read_program
from fewbreak.ranks import alike, rank
from fewbreak.rules import all_rule, bar, both, carried, each, either, few, gives, led, none_rule, same
from plain import Case, DELAY, IO, ONE, S, SIXTEEN, THREE, keeps, rows, some_machine, some_rule

M = read_machine(S, "machine 1\nstanding a\n1 b\n0 a\nstanding b end\n1 b\n0 a\n")


def five(letters):
    return either(same(letters), same(letters), none_rule(letters))


class FormTest(Case):
    def looks_so(self, rule, runs, standings):
        found = form(rule)
        self.assertEqual(found.runs, runs)
        self.assertEqual(repr(found), f"Form({runs} runs, {standings} standings)")
        if runs == 0:
            self.assertIsNone(found.machine)
        else:
            self.assertEqual((found.machine.standings, found.machine.tapes), (standings, runs))
            self.assertEqual(found.machine, broken_rows(rule, runs))
            if standings < 15:
                self.lacks_faults(found.machine)

    def test_examples(self):
        self.looks_so(same(IO, "in"), 2, 5)
        self.looks_so(led(IO, ["in"], ["out"]), 2, 5)
        self.looks_so(gives(same(IO, "in"), same(IO, "out")), 2, 3)
        self.looks_so(either(same(IO, "in"), same(IO, "out")), 2, 7)
        self.looks_so(either(each(M), gives(each(M), none_rule(S))), 2, 13)
        self.looks_so(gives(each(M), same(S, "s")), 2, 11)
        self.looks_so(carried(read_program(IO, IO, DELAY), led(IO, ["in"], ["out"])), 0, 0)
        self.looks_so(all_rule(S), 0, 0)
        self.looks_so(none_rule(S), 1, 1)

    def test_drawn(self):
        for seed in range(80):
            letters = (ONE, S, THREE, IO)[seed % 4]
            rule = some_rule(letters, seed, deep=seed % 3)
            found = form(rule)
            self.assertEqual(found.runs, rank(rule))
            self.looks_so(rule, found.runs, 0 if found.machine is None else found.machine.standings)

    def test_one_rule_in_several_ways(self):
        one, other = same(IO, "in"), same(IO, "out")
        for left, right in ((one & other, same(IO, "out", "in")), (few(3, one), one), (both(IO, one, one, one), one),
                            (gives(one, both(IO, one, other)), gives(one, other)), (all_rule(IO), few(1, one)),
                            (one | both(IO, one, other), one), (bar_of(one), one), (none_rule(IO), few(2, none_rule(IO)))):
            self.assertTrue(form(left) == form(right), (left, right))
        self.assertFalse(form(one) == form(other))
        self.assertFalse(form(one) == form(few(1, one)))
        self.assertEqual(form(all_rule(S)), form(all_rule(IO)))

    def test_equal(self):
        machine = some_machine(S, 2, 2, 1)
        self.assertTrue(Form(2, machine) == Form(2, machine.named("other")))
        self.assertTrue(Form(0, None) == Form(0, None))
        for other in (Form(1, machine), Form(2, some_machine(S, 2, 2, 3)), Form(2, None), (2, machine), None, 2):
            self.assertFalse(Form(2, machine) == other)
        self.assertEqual(repr(Form(0, None)), "Form(0 runs, 0 standings)")


class BarOfTest(Case):
    def test_bar_of(self):
        for seed in range(80):
            letters = (ONE, S, THREE, IO)[seed % 4]
            rule = some_rule(letters, seed, deep=seed % 3)
            found = bar_of(rule)
            if rank(rule) == 0:
                self.assertEqual((found, str(found)), (all_rule(letters), "all"))
            else:
                self.assertEqual((found, str(found)), (bar(form(rule).machine), "bar(made)"))
                self.assertEqual(found.number, rank(rule))
            self.assertTrue(alike(found, rule))
            for row in rows(letters, 2, 1):
                self.assertIs(keeps(found, row), keeps(rule, row))

    def test_rule_of_forty_forms(self):
        rule = both(S, *[same(S)] * 39)
        self.assertEqual((rule.forms, bar_of(rule).forms), (40, 1))


class ErrorsTest(Case):
    def test_room(self):
        for call in (form, bar_of):
            self.fails(TooMany, ("tapes", 5), call, five(S))
            self.fails(TooMany, ("tapes", 5), call, few(1, beside([], five(SIXTEEN))))
            self.fails(TooMany, ("columns", 17 ** 4 - 1), call, either(same(SIXTEEN), same(SIXTEEN)))
        self.assertEqual(form(few(0, beside([], five(SIXTEEN)))), Form(0, None))
        self.assertEqual(bar_of(few(0, beside([], five(SIXTEEN)))), all_rule(SIXTEEN))


if __name__ == "__main__":
    unittest.main()
