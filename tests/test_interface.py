"""The names, parameters and kinds of the interface, and the conventions that hold for all of it."""

import ast
import importlib
import inspect
import os
import unittest

ROOT = os.path.join(os.path.dirname(os.path.abspath(__file__)), "..", "fewbreak")

FUNCTIONS = {
    "letters": {"is_name": "(text)", "read_letters": "(text)"},
    "runs": {"is_run": "(letters, run)", "run_text": "(run)", "read_run": "(letters, text)",
             "run_key": "(letters, run)", "told_lot": "(letters, lot)", "lot_text": "(letters, lot)",
             "read_lot": "(letters, text)"},
    "sides": {"many_columns": "(letters, tapes)", "check_tapes": "(letters, tapes)", "columns": "(letters, tapes)",
              "column_place": "(letters, column)", "column_at": "(letters, tapes, place)", "columns_of": "(row)",
              "is_filled": "(found)", "runs_of": "(found, tapes)", "row_key": "(letters, row)"},
    "machinetexts": {"read_machine": "(letters, text, *, machine_name='made')", "machine_text": "(machine)"},
    "least": {"least": "(machine)", "is_least": "(machine)", "like": "(one, other)"},
    "combine": {"joined": "(one, other)", "met": "(one, other)", "less": "(one, other)", "turned": "(machine)",
                "any_row": "(letters, tapes)", "no_row": "(letters, tapes)", "only_row": "(letters, row)"},
    "choosing": {"chosen": "(machine, tapes, picks)", "dropped": "(machine, tape)"},
    "rows": {"first_row": "(machine)", "taken_rows": "(machine, length=3)", "count_rows": "(machine, length=3)"},
    "programtexts": {"read_program": "(read, write, text, *, program_name='made')"},
    "looks": {"narrowed": "(letters, names)", "look": "(letters, names)", "blot": "(letters, name)",
              "behind_each_other": "(first, second)"},
    "passing": {"behind": "(program, machine)", "passed": "(program, machine)"},
    "rules": {"all_rule": "(letters)", "none_rule": "(letters)", "each": "(machine)", "bar": "(machine)",
              "same": "(letters, *names)", "led": "(letters, before, after)", "both": "(letters, *rules)",
              "either": "(first, *others)", "gives": "(one, other)", "few": "(most, rule)",
              "carried": "(program, rule)"},
    "meaning": {"lot_keeps": "(rule, lot)", "least_broken": "(rule, lot)", "run_keeps": "(rule, run)"},
    "besides": {"beside": "(lot, rule)"},
    "ruletexts": {"read_rule": "(letters, text, *, things_named=(), rules_named=())", "names_in": "(text)"},
    "broken": {"check_room": "(rule, tapes)", "broken_rows": "(rule, tapes)", "kept_rows": "(rule, tapes)"},
    "follows": {"follows": "(rules, wish)", "is_against": "(rules, wish, lot)"},
    "ranks": {"rank": "(rule)", "ladder": "(rule)", "alike": "(one, other)"},
    "forms": {"form": "(rule)", "bar_of": "(rule)"},
    "tables": {"table": "(rules, wish)", "table_fault": "(rules, wish, rows)"},
    "weakest": {"weakest": "(rules, wish)", "sides_of": "(rules, wishes)"},
    "carrying": {"carries": "(before, program, after)", "programs_part": "(one, other, rule)", "unseen": "(rule)"},
    "yokes": {"check_sides": "(letters, sides)", "yoke": "(rules, wish)", "yoked_lot": "(letters, sides, lots)"},
    "pours": {"pours": "(rules, wish)", "pours_not": "(rules, wish, coloured)"},
    "deals": {"dealt": "(rule, names)", "deal": "(letters, lot, names)"},
    "kept": {"keeps": "(machine, rule)", "alone": "(rule)", "clash": "(machine, rule)"},
    "blame": {"blameless": "(machine, rule)", "blame": "(machine, rule, run)"},
    "coming": {"may_come": "(rule, lot)"},
    "together": {"yoked": "(letters, machines)", "poured": "(first, *others)"},
    "told": {"greatest": "(rule, lot)", "struck": "(rule, lot)", "staying": "(rule, lot)"},
    "answers": {"lead": "(one, other, lot)", "through": "(first, *others)"},
    "vectors": {"vectors": "(stock, wish, *, known_rules=())", "enough": "(stock, picked, wish, *, known_rules=())"},
    "choices": {"choices": "(stock, wish, *, known_rules=())",
                "cheapest": "(stock, wish, *, known_rules=(), unit_prices=None)"},
    "plans": {"plan": "(questions, wish, lot)", "plan_depth": "(questions, wish, lot)",
              "is_plan": "(questions, wish, lot, pairs)"},
    "entries": {"is_deed": "(deed)", "read_entries": "(deeds)"},
}
METHODS = {
    "letters": {"Letters": {
        "__init__": "(self, *parts)", "listed": "(self)", "is_letter": "(self, text)", "place": "(self, letter)",
        "signs_of": "(self, name)", "seen": "(self, letter, names)", "__str__": None, "__repr__": None, "__eq__": None,
        "__len__": None, "__contains__": None}},
    "machines": {"Machine": {
        "__init__": "(self, letters, tapes, rows, ends, *, machine_name='made')", "standings": "property",
        "next_of": "(self, standing, column)", "is_end": "(self, standing)", "reached": "(self, row)",
        "takes": "(self, row)", "named": "(self, name)", "__repr__": None, "__eq__": None, "__len__": None,
        "__contains__": None}},
    "programs": {"Program": {
        "__init__": "(self, read, write, rows, ends, *, program_name='made')", "standings": "property",
        "line_of": "(self, standing, letter)", "is_end": "(self, standing)", "written": "(self, run)",
        "written_lot": "(self, lot)", "__repr__": None, "__eq__": None, "__len__": None}},
    "rules": {"Rule": {
        "__init__": "(self, kind, letters, *, rules=(), machine=None, program=None, before=None, after=None, lot=None, "
                    "most=None)",
        "__and__": None, "__or__": None, "__rshift__": None, "__str__": None, "__eq__": None, "__repr__": None}},
    "forms": {"Form": {"__init__": "(self, runs, machine)", "__eq__": None, "__repr__": None}},
    "live": {"Live": {
        "__init__": "(self, rule, lot=())", "many": "property", "put_in": "(self, run)", "take_out": "(self, run)",
        "change": "(self, old, new)", "set_rule": "(self, rule)", "told": "(self)", "stands": "(self)",
        "broken_parts": "(self)", "greatest_parts": "(self)", "struck_runs": "(self)", "staying_runs": "(self)",
        "__contains__": None, "__len__": None, "__bool__": None}},
    "growing": {"Growing": {
        "__init__": "(self, rule, many)", "many": "property", "grow": "(self, at, letter)", "finish": "(self, at)",
        "step_back": "(self)", "so_far": "(self)", "finished": "(self)", "verdict": "(self)",
        "way_on": "(self, *, breaking=True)"}},
    "desk": {"Desk": {
        "__init__": "(self)", "in_draft": "property", "do": "(self, deed)", "do_all": "(self, deeds)", "undo": "(self)",
        "redo": "(self)", "begin": "(self)", "keep": "(self)", "throw": "(self)", "entry_names": "(self)",
        "thing": "(self, name)", "deed": "(self, name)", "used": "(self, name)", "steps": "(self)", "played": "static",
        "__contains__": None, "__len__": None, "__bool__": None}},
    "asking": {"Asker": {
        "__init__": "(self, desk)", "worked": "property", "ask": "(self, question)",
        "judged": "(self, question, answer)"}},
}
GENERATORS = {("sides", "columns"), ("rows", "taken_rows"), ("choices", "choices")}


def defined(module):
    """The names that are defined in a file by def or class, and those of the methods in the bodies of classes."""
    with open(os.path.join(ROOT, module + ".py"), encoding="utf-8") as file:
        tree = ast.parse(file.read())
    found = {}
    for node in tree.body:
        if isinstance(node, ast.FunctionDef):
            found[node.name] = ()
        if isinstance(node, ast.ClassDef):
            found[node.name] = {part.name for part in node.body if isinstance(part, ast.FunctionDef)}
    return found


class InterfaceTest(unittest.TestCase):
    def test_functions(self):
        for module, functions in FUNCTIONS.items():
            held = importlib.import_module("fewbreak." + module)
            for name, parameters in functions.items():
                self.assertIn(name, defined(module))
                self.assertEqual(str(inspect.signature(getattr(held, name))), parameters, name)

    def test_generators(self):
        for module, functions in FUNCTIONS.items():
            held = importlib.import_module("fewbreak." + module)
            for name in functions:
                made = inspect.isgeneratorfunction(getattr(held, name))
                self.assertEqual(made, (module, name) in GENERATORS, name)

    def test_methods(self):
        for module, classes in METHODS.items():
            held = importlib.import_module("fewbreak." + module)
            for class_name, methods in classes.items():
                for name, parameters in methods.items():
                    self.assertIn(name, defined(module)[class_name])
                    method = vars(getattr(held, class_name))[name]
                    if parameters == "property":
                        self.assertIsInstance(method, property)
                    elif parameters == "static":
                        self.assertIsInstance(method, staticmethod)
                        self.assertEqual(str(inspect.signature(method.__func__)), "(steps)")
                    elif parameters is not None:
                        self.assertEqual(str(inspect.signature(method)), parameters, name)

    def test_errors_are_defined_in_their_file(self):
        errors = importlib.import_module("fewbreak.errors")
        self.assertEqual({name for name in vars(errors) if not name.startswith("__")}, set(defined("errors")))

    def test_by_name(self):
        """Each parameter may be passed by its name."""
        letters = importlib.import_module("fewbreak.letters").read_letters(text="s:01")
        sides = importlib.import_module("fewbreak.sides")
        self.assertEqual(sides.column_at(place=1, tapes=1, letters=letters), ("1",))
        self.assertEqual(letters.seen(names=["s"], letter="1"), "1")
        made = importlib.import_module("fewbreak.combine").any_row(tapes=1, letters=letters)
        self.assertEqual(list(importlib.import_module("fewbreak.rows").taken_rows(length=0, machine=made)), [[()]])


if __name__ == "__main__":
    unittest.main()
