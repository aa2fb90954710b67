"""What the document promises over the whole program: arguments, returned lists, names of parameters, and errors."""

import copy
import importlib
import inspect
import types
import unittest

from fewbreak.asking import Asker
from fewbreak.combine import any_row
from fewbreak.desk import Desk
from fewbreak.errors import Missing, RuleError
from fewbreak.forms import Form
from fewbreak.growing import Growing
from fewbreak.letters import Letters, read_letters
from fewbreak.live import Live
from fewbreak.looks import look
from fewbreak.machines import Machine
from fewbreak.machinetexts import read_machine
from fewbreak.programs import Program
from fewbreak.programtexts import read_program
from fewbreak.rules import Rule, all_rule, both, each, gives, led, none_rule, same
from fewbreak.tables import table
from plain import DELAY, IO, S, Case
from test_entries import DEEDS, ENDS, FLIP
from test_interface import FUNCTIONS, GENERATORS

MACHINE = read_machine(S, ENDS)
PAIRS = read_machine(S, "machine 2\nstanding a end\n0 1 a\n# 1 a\n")
PROGRAM = read_program(S, S, FLIP)
SLOW = read_program(IO, IO, DELAY)
LEADS = gives(same(IO, "in"), same(IO, "out"))
IN, OUT = same(IO, "in"), same(IO, "out")
SAME = same(S, "s")
LOT = [("10",), ("01",), ("00",), ("01",)]
SIDES = [read_letters("in:01"), read_letters("out:01")]

# for each function of the interface the arguments of a call that raises no error
CALLS = {
    "is_name": ["io"], "read_letters": ["s:01"], "is_run": [S, ("0",)], "run_text": [("0",)], "read_run": [S, "0.1"],
    "run_key": [S, ("0",)], "told_lot": [IO, LOT], "lot_text": [IO, LOT], "read_lot": [S, "1 0"],
    "many_columns": [S, 2], "check_tapes": [S, 2], "columns": [S, 2], "column_place": [S, ("#", "1")],
    "column_at": [S, 2, 1], "columns_of": [[("0",), ()]], "is_filled": [[("0", "#"), ("1", "#")]],
    "runs_of": [[("0", "#"), ("1", "#")], 2], "row_key": [S, [("0",), ()]],
    "read_machine": [S, ENDS], "machine_text": [MACHINE], "least": [MACHINE], "is_least": [MACHINE],
    "like": [MACHINE, MACHINE], "joined": [MACHINE, MACHINE], "met": [MACHINE, MACHINE], "less": [MACHINE, MACHINE],
    "turned": [MACHINE], "any_row": [S, 2], "no_row": [S, 2], "only_row": [S, [("0",), ()]],
    "chosen": [PAIRS, 3, [2, 0]], "dropped": [PAIRS, 1], "first_row": [PAIRS], "taken_rows": [PAIRS, 2],
    "count_rows": [PAIRS, 2], "read_program": [S, S, FLIP], "narrowed": [IO, ["out", "in"]], "look": [IO, ["out"]],
    "blot": [IO, "in"], "behind_each_other": [PROGRAM, PROGRAM], "behind": [PROGRAM, PAIRS], "passed": [PROGRAM, MACHINE],
    "all_rule": [S], "none_rule": [S], "each": [MACHINE], "bar": [PAIRS], "same": [IO, "in"],
    "led": [IO, ["in"], ["out", "in"]], "both": [IO, IN, OUT], "either": [IN, OUT], "gives": [IN, OUT], "few": [2, IN],
    "carried": [SLOW, IN], "lot_keeps": [LEADS, LOT], "least_broken": [LEADS, LOT], "run_keeps": [LEADS, ("00",)],
    "beside": [LOT[:1], LEADS], "read_rule": [S, "both(each(made),known)"], "names_in": ["both(each(b),a)"],
    "check_room": [LEADS, 2], "broken_rows": [LEADS, 2], "kept_rows": [LEADS, 1], "follows": [[LEADS, IN], led(IO, [], ["out"])],
    "is_against": [[LEADS], OUT, LOT], "rank": [LEADS], "ladder": [LEADS], "alike": [LEADS, IN], "form": [LEADS],
    "bar_of": [LEADS], "table": [[LEADS, IN], OUT], "table_fault": [[LEADS, IN], OUT, table([LEADS, IN], OUT)],
    "weakest": [[LEADS], OUT], "sides_of": [[LEADS, IN], [OUT, IN, none_rule(IO)]], "carries": [LEADS, SLOW, OUT],
    "programs_part": [SLOW, SLOW, OUT], "unseen": [OUT], "check_sides": [IO, SIDES],
    "yoke": [[same(SIDES[0], "in"), all_rule(SIDES[1])], OUT],
    "yoked_lot": [IO, SIDES, [[("0",), ("1",)], [("1",), ("1",)]]], "pours": [[OUT, IN], OUT],
    "pours_not": [[OUT, IN], OUT, [(("00",), 0), (("01",), 1)]], "dealt": [LEADS, ["out"]], "deal": [IO, LOT, ["in"]],
    "keeps": [any_row(IO, 1), LEADS], "alone": [LEADS], "clash": [any_row(IO, 1), LEADS],
    "blameless": [any_row(IO, 1), LEADS], "blame": [any_row(IO, 1), LEADS, ("00",)], "may_come": [IN, LOT[1:]],
    "yoked": [IO, [any_row(SIDES[0], 1), any_row(SIDES[1], 1)]], "poured": [MACHINE, any_row(S, 1)],
    "greatest": [LEADS, LOT], "struck": [LEADS, LOT], "staying": [LEADS, LOT], "lead": [both(IO, IN, OUT), LEADS, LOT],
    "through": [[1, 0], [5, 6]], "vectors": [[IN, OUT], both(IO, IN, OUT)],
    "enough": [[IN, OUT], (0,), both(IO, IN, OUT)], "choices": [[IN, OUT, IN], both(IO, IN, OUT)],
    "cheapest": [[IN, OUT, IN], both(IO, IN, OUT)], "plan": [[IN, OUT], both(IO, IN, OUT), LOT],
    "plan_depth": [[IN, OUT], both(IO, IN, OUT), LOT], "is_plan": [[IN, OUT], LEADS, LOT, [((0, 1, 2), 1), ((0, 2), -1), ((1,), -1)]],
    "is_deed": [("drop", "x")], "read_entries": [DEEDS],
}
# the arguments that may be passed by name alone
NAMED = {
    "read_machine": {"machine_name": "odd"}, "read_program": {"program_name": "odd"},
    "read_rule": {"things_named": [MACHINE, PROGRAM], "rules_named": [("known", SAME)]},
    "vectors": {"known_rules": [LEADS]}, "enough": {"known_rules": [LEADS]}, "choices": {"known_rules": [LEADS]},
    "cheapest": {"known_rules": [LEADS], "unit_prices": [3, 1, 2]},
}


def called(call, *args, **more):
    """What a call returns, with a generator read to its end."""
    found = call(*args, **more)
    return list(found) if isinstance(found, types.GeneratorType) else found


def turned(value, kind=tuple):
    """A value with tuples in the place of lists, also within lists."""
    return kind(turned(one, kind) for one in value) if isinstance(value, list) else value


def frozen(value):
    """What is told of a value: its kind, and what it holds."""
    if isinstance(value, (list, tuple)):
        return type(value).__name__, [frozen(one) for one in value]
    if isinstance(value, dict):
        return {key: frozen(one) for key, one in value.items()}
    if isinstance(value, Rule):
        return str(value), frozen(value.machine), frozen(value.program), frozen(value.rules)
    if isinstance(value, (Machine, Program)):
        return value.name, value.rows, value.ends
    return value


def emptied(value):
    """Takes all items out of a returned list, and out of the lists within it."""
    if isinstance(value, (list, tuple)):
        for one in value:
            emptied(one)
        if isinstance(value, list):
            value.clear()


class FunctionsTest(Case):
    def functions(self):
        for module, functions in FUNCTIONS.items():
            held = importlib.import_module("fewbreak." + module)
            for name in functions:
                yield name, getattr(held, name), CALLS[name], NAMED.get(name, {})

    def test_all_are_here(self):
        names = [name for functions in FUNCTIONS.values() for name in functions]
        self.assertEqual(sorted(names), sorted(CALLS))

    def test_arguments_are_not_changed_and_lists_are_new(self):
        for name, call, args, more in self.functions():
            before = frozen((args, more))
            found = called(call, *args, **more)
            wanted = frozen(found)
            emptied(found)
            self.assertEqual(frozen((args, more)), before, name)
            self.assertEqual(frozen(called(call, *args, **more)), wanted, name)

    def test_tuples_for_lists(self):
        for name, call, args, more in self.functions():
            wanted = frozen(called(call, *args, **more))
            tuples = [turned(one) for one in args]
            self.assertEqual(frozen(called(call, *tuples, **{key: turned(one) for key, one in more.items()})), wanted, name)

    def test_by_name(self):
        for name, call, args, more in self.functions():
            wanted = frozen(called(call, *args, **more))
            parameters = list(inspect.signature(call).parameters.values())
            if not any(one.kind == one.VAR_POSITIONAL for one in parameters):
                by_name = dict(zip([one.name for one in parameters], args))
                self.assertEqual(frozen(called(call, **by_name, **more)), wanted, name)
            for key in more:
                kinds = {one.name: one.kind for one in parameters}
                self.assertEqual(kinds[key], inspect.Parameter.KEYWORD_ONLY)

    def test_defaults(self):
        """A default says the same as the value that the document names."""
        for name, call, args, more in self.functions():
            parameters = inspect.signature(call).parameters
            given = {key: parameters[key].default for key in more}
            if name != "read_rule":
                self.assertEqual(frozen(called(call, *args)), frozen(called(call, *args, **given)), name)

    def test_kinds_that_are_returned(self):
        """Besides what the document lists as tuples, all that has several items is a list."""
        tuples = {"row_key", "run_key", "column_at", "read_run", "cheapest", "table_fault"}
        for name, call, args, more in self.functions():
            found = called(call, *args, **more)
            if isinstance(found, tuple):
                self.assertIn(name, tuples)
            if name in ("is_name", "is_run", "is_filled", "is_least", "like", "lot_keeps", "run_keeps", "is_against",
                        "alike", "pours_not", "is_plan", "is_deed"):
                self.assertIs(type(found), bool, name)
            if name in ("check_tapes", "check_room", "check_sides"):
                self.assertIsNone(found)
            for machine in found if isinstance(found, list) else [found]:
                if isinstance(machine, Machine) and name not in ("read_machine", "read_entries"):
                    self.assertEqual(machine.name, "made", name)

    def test_generators(self):
        for module, name in GENERATORS:
            call = getattr(importlib.import_module("fewbreak." + module), name)
            self.assertIsInstance(call(*CALLS[name]), types.GeneratorType)


class ObjectsTest(Case):
    def test_no_return(self):
        """Methods return None unless their entry says what they return."""
        live, growing, desk = Live(SAME), Growing(SAME, 2), Desk()
        for found in (live.put_in(("0",)), live.change(("0",), ()), live.take_out(()), live.set_rule(all_rule(S)),
                      growing.grow(0, "0"), growing.finish(0), growing.step_back(), desk.do(DEEDS[0]),
                      desk.do_all(DEEDS[1:3]), desk.undo(), desk.redo(), desk.begin(), desk.keep(), desk.begin(), desk.throw()):
            self.assertIsNone(found)

    def test_lists_that_are_given(self):
        """Objects copy the lists that they are given, and take tuples for them."""
        rows, ends = [[0, 1], [1, 0]], [False, True]
        machine = Machine(S, 1, rows, ends)
        lines = [[("1", 0), None]]
        program = Program(S, S, lines, [True])
        lot = [("0",)]
        live = Live(SAME, lot)
        rows[0].clear()
        ends.clear()
        lines[0].clear()
        lot.clear()
        self.assertEqual(machine, Machine(S, 1, ((0, 1), (1, 0)), (False, True)))
        self.assertEqual(program, Program(S, S, ((("1", 0), None),), (True,)))
        self.assertEqual(live.told(), [("0",)])

    def test_equal_to_nothing_of_another_class(self):
        things = [IO, MACHINE, PROGRAM, LEADS, Form(0, None)]
        for at, one in enumerate(things):
            for other in things[:at] + things[at + 1:] + [None, 0, "", str(one), [], (), copy.copy]:
                self.assertFalse(one == other)
                self.assertTrue(one != other)

    def test_attributes(self):
        """Each attribute is set when its object is created."""
        for thing, names in ((IO, ("names", "signs")), (MACHINE, ("letters", "tapes", "name")),
                             (PROGRAM, ("read", "write", "name")), (Form(0, None), ("runs", "machine")),
                             (Live(SAME), ("rule",)), (Growing(SAME, 1), ("rule",)), (Asker(Desk()), ("desk",)),
                             (all_rule(S), ("kind", "letters", "number", "forms", "told_runs", "rules", "machine", "program",
                                            "before", "after", "lot", "most"))):
            for name in names:
                self.assertIn(name, vars(thing))
        rule = all_rule(S)
        self.assertEqual([rule.rules, rule.machine, rule.program, rule.before, rule.after, rule.lot, rule.most],
                         [(), None, None, None, None, None, None])

    def test_letters_that_never_change(self):
        """Lists that objects tell are new each time."""
        for thing, words in ((IO, ("listed",)), (Live(LEADS, LOT), ("told", "broken_parts", "greatest_parts", "struck_runs",
                                                                    "staying_runs")),
                             (Growing(LEADS, 2), ("so_far", "finished", "way_on")),
                             (Desk.played([DEEDS]), ("entry_names", "steps"))):
            for word in words:
                wanted = frozen(getattr(thing, word)())
                emptied(getattr(thing, word)())
                self.assertEqual(frozen(getattr(thing, word)()), wanted, word)

    def test_lists_as_one_sees_them(self):
        found = look(IO, ["in"])
        self.assertEqual(found.written_lot(tuple(LOT)), found.written_lot(LOT))
        self.assertEqual(IO.seen("01", ("out", "in", "out")), "101")

    def test_errors_are_of_two_families(self):
        errors = importlib.import_module("fewbreak.errors")
        for name, error in vars(errors).items():
            if inspect.isclass(error) and error not in (RuleError, Missing):
                self.assertIn(error.__bases__, [(RuleError,), (Missing,), (IndexError,)], name)


if __name__ == "__main__":
    unittest.main()
