import random
import unittest

from fewbreak.desk import Desk
from fewbreak.entries import read_entries
from fewbreak.errors import (BadDeed, BadName, BadText, InDraft, NoDraft, NothingLeft, TooMany, UnknownName,
                             UnlikeParts)
from fewbreak.letters import read_letters
from fewbreak.rules import all_rule, same
from plain import IO, S, Case
from test_entries import DEEDS, ENDS, FLIP, PAIRS

NAMES = [one + two for one in "abcdef" for two in "abcdefg"]
S_DEED = ("letters", "s", "s:01")


def texts(desk):
    """All that a desk tells of its entries."""
    found = []
    for name in desk.entry_names():
        found.append((name, desk.deed(name), desk.thing(name), desk.used(name)))
    return found


def uses(deeds, name):
    """The names of the entries that an entry uses, read straight from the document; `deeds` has them by names."""
    deed = deeds[name]
    found = set(deed[2:-1])
    if deed[0] == "rule":
        words = deed[-1].replace("(", " ( ").replace(")", " ) ").replace(",", " , ").replace(";", " ; ").split()
        for at, word in enumerate(words):
            if words[at + 1:at + 2] == ["("] or word in "(),;" or word in ("all", "none"):
                continue
            if word in deeds and not words[at - 2:at] == ["same", "("]:
                found.add(word)
    for one in list(found):
        found |= uses(deeds, one)
    return found


class Model:
    """A desk worked out anew from its steps: the deeds that stand, put into entries one behind another."""

    def __init__(self):
        self.steps, self.undone, self.outer = [], [], None

    def deeds(self, more=()):
        found = {}
        for step in (self.outer[0] if self.outer else []) + self.steps + [tuple(more)]:
            for deed in step:
                if deed[0] == "drop":
                    del found[deed[1]]
                else:
                    found[deed[1]] = deed
        return list(found.values())


class DeskTest(Case):
    def agrees(self, desk, model):
        deeds = model.deeds()
        names = [deed[1] for deed in deeds]
        self.assertEqual((desk.entry_names(), len(desk)), (names, len(names)))
        self.assertIs(bool(desk), True)
        self.assertIs(desk.in_draft, model.outer is not None)
        things = read_entries(deeds)
        by_name = {deed[1]: deed for deed in deeds}
        for deed, thing in zip(deeds, things):
            name = deed[1]
            self.assertIn(name, desk)
            self.assertEqual((desk.deed(name), desk.thing(name)), (deed, thing))
            self.assertIs(type(desk.thing(name)), type(thing))
            self.assertEqual(desk.used(name), sorted(uses(by_name, name)))
        steps = (model.outer[0] if model.outer else []) + model.steps
        self.assertEqual(desk.steps(), steps)
        self.assertEqual(texts(Desk.played(desk.steps())), texts(desk))

    def some_deed(self, source):
        kind = source.choice(["letters", "machine", "program", "rule", "rule", "rule", "drop"])
        name = source.choice("abcdefg")
        letters = [source.choice("abc") for _ in range(2)]
        if kind == "letters":
            return "letters", source.choice("abc"), source.choice(["s:01", "s:01", "s:10", "in:01 out:01"])
        if kind == "machine":
            return "machine", name, letters[0], source.choice([ENDS, ENDS, "machine 1\nstanding a end\n* a\n", "machine"])
        if kind == "program":
            return "program", name, letters[0], letters[1], FLIP
        if kind == "drop":
            return "drop", name
        text = source.choice(["all", "none", "same(s)", "each({0})", "both({0},{1})", "carried({0},{1})", "{0}", "gives("])
        return "rule", name, letters[0], text.format(source.choice("cdefg"), source.choice("cdefg"))

    def turn(self, desk, model, source):
        """One drawn call on both. Returns the name of the error, if there was one."""
        word = source.choice(["do"] * 6 + ["do_all", "undo", "redo", "begin", "keep", "throw"])
        if word in ("do", "do_all"):
            deeds = [self.some_deed(source) for _ in range(1 if word == "do" else source.randint(0, 3))]
            error = None
            done = []
            for deed in deeds:
                error = self.first_error(model.deeds(done), deed)
                if error:
                    break
                done.append(deed)
            values = (deeds[0],) if word == "do" else (deeds,)
            if error:
                self.fails(error[0], error[1], getattr(desk, word), *values)
                return error[0].__name__
            self.assertIsNone(getattr(desk, word)(*values))
            if deeds:
                model.steps.append(tuple(deeds))
                model.undone = []
        elif word == "undo" and model.steps:
            desk.undo()
            model.undone.append(model.steps.pop())
        elif word == "redo" and model.undone:
            desk.redo()
            model.steps.append(model.undone.pop())
        elif word in ("undo", "redo"):
            self.fails(NothingLeft, (), getattr(desk, word))
        elif word == "begin" and model.outer is None:
            desk.begin()
            model.outer, model.steps, model.undone = (model.steps, model.undone), [], []
        elif word == "begin":
            self.fails(InDraft, (), desk.begin)
        elif model.outer is None:
            self.fails(NoDraft, (), getattr(desk, word))
        else:
            getattr(desk, word)()
            deeds = tuple(deed for step in model.steps for deed in step)
            model.steps, model.undone = model.outer
            model.outer = None
            if word == "keep" and deeds:
                model.steps, model.undone = model.steps + [deeds], []
        return None

    def first_error(self, deeds, deed):
        """The error of a deed on some entries, as a class and its values; None if there is none."""
        names = [one[1] for one in deeds]
        if deed[0] == "drop" and deed[1] not in names:
            return UnknownName, (deed[1],)
        if deed[0] == "drop":
            deeds = [one for one in deeds if one[1] != deed[1]]
        else:
            deeds = [deed if one[1] == deed[1] else one for one in deeds] + ([] if deed[1] in names else [deed])
        try:
            read_entries(deeds)
        except (ValueError, LookupError) as error:
            return type(error), tuple(value for name, value in vars(error).items() if name != "code")
        return None

    def test_drawn_series(self):
        errors = set()
        sizes = 0
        for seed in range(120):
            source = random.Random(seed)
            desk, model = Desk(), Model()
            for name in "abc":
                deed = ("letters", name, source.choice(["s:01", "s:10"]))
                desk.do(deed)
                model.steps.append((deed,))
            for at in range(40):
                errors.add(self.turn(desk, model, source))
                if at % 4 == 0 or at > 35:
                    self.agrees(desk, model)
            sizes += len(desk)
        self.assertTrue({None, "UnknownName", "BadText", "UnlikeParts"} <= errors, errors)
        self.assertGreater(sizes, 500)

    def test_empty_desk(self):
        desk = Desk()
        self.assertEqual((len(desk), bool(desk), desk.entry_names(), desk.steps()), (0, True, [], []))
        self.assertIs(desk.in_draft, False)
        self.assertNotIn("s", desk)
        self.fails(NothingLeft, (), desk.undo)
        self.fails(NothingLeft, (), desk.redo)
        self.assertEqual((Desk.MOST, desk.MOST), (40, 40))

    def test_an_entry_that_changes(self):
        desk = Desk()
        desk.do_all(DEEDS)
        self.assertEqual(desk.entry_names(), [deed[1] for deed in DEEDS])
        self.assertEqual(desk.used("wide"), ["ends", "io", "narrow", "one", "s"])
        self.assertEqual(desk.used("many"), ["delay", "io", "leads", "pairs"])
        self.assertEqual((desk.used("io"), desk.used("ends"), desk.used("same")), ([], ["s"], ["io"]))
        before = desk.thing("many")
        desk.do(("rule", "leads", "io", "all"))
        self.assertEqual(desk.thing("leads"), all_rule(IO))
        self.assertEqual(str(desk.thing("many")), "both(all,bar(pairs),carried(delay,all),all)")
        self.assertEqual(desk.entry_names(), [deed[1] for deed in DEEDS])
        self.assertEqual(desk.deed("many"), DEEDS[7])
        desk.undo()
        self.assertEqual(desk.thing("many"), before)
        # a machine in the place of a rule: what uses the rule cannot be read any more
        self.fails(UnknownName, ("leads",), desk.do, ("machine", "leads", "io", PAIRS))
        self.fails(UnknownName, ("ends",), desk.do, ("drop", "ends"))
        self.fails(BadText, (2, "form"), desk.do, ("letters", "s", "s:23"))
        self.assertEqual(desk.steps(), [tuple(DEEDS)])

    def test_the_place_of_an_entry(self):
        desk = Desk()
        desk.do_all([S_DEED, ("rule", "a", "s", "all"), ("rule", "b", "s", "a"), ("letters", "t", "s:01")])
        # an entry stays in its place, so it cannot use those behind it, nor itself
        self.fails(UnknownName, ("b",), desk.do, ("rule", "a", "s", "b"))
        self.fails(UnknownName, ("a",), desk.do, ("rule", "a", "s", "a"))
        self.fails(UnknownName, ("t",), desk.do, ("rule", "a", "t", "all"))
        desk.do(("drop", "b"))
        desk.do(("rule", "b", "t", "a"))
        self.assertEqual(desk.entry_names(), ["s", "a", "t", "b"])
        self.assertEqual(desk.used("b"), ["a", "s", "t"])
        self.fails(UnlikeParts, ("s:10", "s:01"), desk.do, ("letters", "t", "s:10"))
        self.fails(UnknownName, ("t",), desk.do, ("rule", "t", "s", "same(s)"))

    def test_errors_in_order(self):
        desk = Desk()
        desk.do_all([("letters", name, "s:01") for name in NAMES[:40]])
        before = texts(desk)
        for deed in ((), ("drop",), ("lot", "NO"), ("letters", "NO"), ("rule", "NO", "NO")):
            self.fails(BadDeed, (), desk.do, deed)
        for deed in (("drop", "NO"), ("letters", "NO", "bad"), ("rule", "seventh", "NO", "(")):
            self.fails(BadName, (deed[1],), desk.do, deed)
        self.fails(UnknownName, ("zz",), desk.do, ("drop", "zz"))
        self.fails(TooMany, ("entries", 41), desk.do, ("rule", "zz", "NO", "("))
        self.fails(TooMany, ("entries", 41), desk.do_all, [("letters", "aa", "s:10"), ("letters", "zz", "bad")])
        self.fails(BadText, (0, "form"), desk.do, ("letters", "aa", "bad"))
        for name in ("zz", "NO", ""):
            for call in (desk.thing, desk.deed, desk.used):
                self.fails(UnknownName, (name,), call, name)
            self.assertNotIn(name, desk)
        self.assertEqual((texts(desk), len(desk.steps())), (before, 1))
        # the entries ahead of the error in a list are not put
        self.fails(UnknownName, ("x",), desk.do_all, [("letters", "aa", "s:10"), ("drop", "ab"), ("drop", "x"), ()])
        self.assertEqual(texts(desk), before)
        desk.do_all([("drop", "ab"), ("rule", "zz", "aa", "same(s)")])
        self.assertEqual((len(desk), desk.entry_names()[-1]), (40, "zz"))
        self.fails(TooMany, ("entries", 41), desk.do, ("letters", "ab", "s:01"))

    def test_steps(self):
        desk = Desk()
        desk.do(S_DEED)
        desk.do_all([])
        desk.do_all([("rule", "a", "s", "all"), ("rule", "b", "s", "a")])
        desk.do(("drop", "b"))
        steps = [(S_DEED,), (("rule", "a", "s", "all"), ("rule", "b", "s", "a")), (("drop", "b"),)]
        self.assertEqual(desk.steps(), steps)
        desk.undo()
        desk.undo()
        self.assertEqual((desk.steps(), desk.entry_names()), (steps[:1], ["s"]))
        # no step, so nothing is forgotten
        desk.do_all(())
        self.fails(BadDeed, (), desk.do, ())
        desk.redo()
        self.assertEqual((desk.steps(), desk.entry_names()), (steps[:2], ["s", "a", "b"]))
        desk.redo()
        self.fails(NothingLeft, (), desk.redo)
        desk.undo()
        # a new step forgets the undone ones, also one that changes nothing
        desk.do(S_DEED)
        self.fails(NothingLeft, (), desk.redo)
        self.assertEqual(desk.steps(), steps[:2] + [(S_DEED,)])

    def test_drafts(self):
        desk = Desk()
        desk.do(S_DEED)
        desk.do(("rule", "a", "s", "all"))
        desk.undo()
        for end in (desk.keep, desk.throw):
            self.fails(NoDraft, (), end)
            desk.begin()
            self.assertIs(desk.in_draft, True)
            self.fails(InDraft, (), desk.begin)
            # undo and redo work on the steps of the draft alone
            self.fails(NothingLeft, (), desk.undo)
            self.fails(NothingLeft, (), desk.redo)
            end()
            self.assertIs(desk.in_draft, False)
        desk.redo()
        self.assertEqual(desk.entry_names(), ["s", "a"])
        desk.undo()
        # a draft that is thrown away, or has no step left, leaves everything as it was, undone steps too
        for end in (desk.throw, desk.keep):
            desk.begin()
            desk.do(("rule", "b", "s", "none"))
            self.assertEqual(desk.steps(), [(S_DEED,), (("rule", "b", "s", "none"),)])
            if end == desk.keep:
                desk.undo()
                self.assertEqual(desk.steps(), [(S_DEED,)])
            end()
            self.assertEqual((desk.entry_names(), desk.steps()), (["s"], [(S_DEED,)]))
        desk.redo()
        self.assertEqual(desk.entry_names(), ["s", "a"])

    def test_a_kept_draft_is_one_step(self):
        desk = Desk()
        desk.do(S_DEED)
        desk.do(("rule", "a", "s", "all"))
        desk.undo()
        desk.begin()
        deeds = [("rule", "b", "s", "none"), ("rule", "c", "s", "b"), ("drop", "c"), ("rule", "d", "s", "b"),
                 ("rule", "e", "s", "d")]
        desk.do_all(deeds[:2])
        desk.do(deeds[2])
        desk.do(deeds[3])
        desk.do(deeds[4])
        desk.undo()
        self.fails(BadText, (0, "form"), desk.do, ("rule", "b", "s", "("))
        self.fails(UnknownName, ("b",), desk.do, ("drop", "b"))
        desk.keep()
        self.assertEqual(desk.steps(), [(S_DEED,), tuple(deeds[:4])])
        self.assertEqual(desk.entry_names(), ["s", "b", "d"])
        # the steps that were undone before the draft and in it are forgotten
        self.fails(NothingLeft, (), desk.redo)
        desk.undo()
        self.assertEqual(desk.entry_names(), ["s"])
        desk.redo()
        self.assertEqual(desk.entry_names(), ["s", "b", "d"])
        self.assertEqual(texts(Desk.played(desk.steps())), texts(desk))

    def test_played(self):
        steps = [(S_DEED,), (), (("rule", "a", "s", "same(s)"), ("rule", "b", "s", "a")), (("drop", "b"),)]
        desk = Desk.played(steps)
        self.assertEqual((desk.entry_names(), desk.steps()), (["s", "a"], steps[:1] + steps[2:]))
        self.assertEqual(desk.thing("a"), same(S, "s"))
        desk.undo()
        self.assertEqual(desk.entry_names(), ["s", "a", "b"])
        self.assertEqual(Desk.played(steps=()).steps(), [])
        self.assertEqual(Desk().played([list(steps[0])]).steps(), [(S_DEED,)])
        self.fails(UnknownName, ("x",), Desk.played, steps + [(("drop", "a"), ("drop", "x")), ((),)])
        self.fails(BadDeed, (), Desk.played, [(S_DEED, ())])

    def test_lists_are_its_own(self):
        desk = Desk()
        deeds = [S_DEED, ("rule", "a", "s", "all")]
        desk.do_all(deeds=deeds)
        deeds.clear()
        for found in (desk.entry_names(), desk.used(name="a"), desk.steps()):
            found.clear()
        desk.do(deed=("rule", "b", "s", "a"))
        self.assertEqual(desk.steps(), [(S_DEED, ("rule", "a", "s", "all")), (("rule", "b", "s", "a"),)])
        self.assertEqual((desk.entry_names(), desk.used("b")), (["s", "a", "b"], ["a", "s"]))
        self.assertEqual((desk.thing(name="s"), desk.deed(name="s")), (read_letters("s:01"), S_DEED))


if __name__ == "__main__":
    unittest.main()
