import unittest

from fewbreak.entries import is_deed, read_entries
from fewbreak.errors import (BadDeed, BadLetters, BadName, BadText, BreaksBeside, HeldTwice, TooMany, UnknownName,
                             UnknownPart, UnlikeParts)
from fewbreak.letters import Letters, read_letters
from fewbreak.machines import Machine
from fewbreak.machinetexts import read_machine
from fewbreak.programs import Program
from fewbreak.programtexts import read_program
from fewbreak.rules import Rule, all_rule, bar, both, carried, each, gives, same
from plain import DELAY, IO, S, Case

ENDS = "machine 1\nstanding a\n1 b\n0 a\nstanding b end\n1 b\n0 a\n"
PAIRS = "machine 2\nstanding a end\n00 01 a\n"
FLIP = "program\nstanding a end\n0 1 a\n1 0 a\n"
DEEDS = [("letters", "io", "in:01 out:01"), ("letters", "s", "s:01"), ("machine", "ends", "s", ENDS),
         ("machine", "pairs", "io", PAIRS), ("program", "delay", "io", "io", DELAY),
         ("rule", "leads", "io", "gives(same(in),same(out))"), ("rule", "one", "s", "each(ends)"),
         ("rule", "many", "io", "both(leads,bar(pairs),carried(delay,leads),all)"), ("rule", "same", "io", "same(in)"),
         ("program", "narrow", "io", "s", "program\nstanding x end\n0? 0 x\n1? 1 x\n"),
         ("rule", "wide", "io", "carried(narrow,both(one,beside(1,one)))")]
BACK = Letters(("s", "10"))


class DeedTest(Case):
    def test_deeds(self):
        for deed in DEEDS + [("drop", "io"), ("drop", ""), ("letters", "", ""), ("machine", "BIG", "9", "x"),
                             ("program", "letters", "drop", "rule", ""), ("rule", "rule", "rule", "rule")]:
            self.assertIs(is_deed(deed), True, deed)

    def test_others(self):
        for deed in ((), ("drop",), ("drop", "a", "b"), ("letters", "a"), ("letters", "a", "b", "c"),
                     ("machine", "a", "l"), ("machine", "a", "l", "t", "x"), ("program", "a", "l", "t"),
                     ("program", "a", "l", "k", "t", "x"), ("rule", "a", "t"), ("rule", "a", "l", "t", "x"),
                     ("lot", "a", "b"), ("Letters", "a", "b"), ("", "a"), ("letter", "a", "b"), (" drop", "a")):
            self.assertIs(is_deed(deed), False, deed)
        for deed in (["drop", "x"], ("drop", ("x",)), ("drop", 1), (("drop",), "x"), "ab"):
            self.assertIs(is_deed(deed), False, deed)
        self.assertIs(is_deed(deed=("drop", "x")), True)


class ReadTest(Case):
    def test_each_kind(self):
        things = read_entries(DEEDS)
        io, s = things[:2]
        self.assertEqual((io, s), (IO, S))
        self.assertEqual([type(thing) for thing in things], [Letters] * 2 + [Machine] * 2 + [Program] + [Rule] * 4 + [
            Program, Rule])
        self.assertEqual((things[2], things[2].name), (read_machine(S, ENDS), "ends"))
        self.assertEqual((things[3], things[3].name), (read_machine(IO, PAIRS), "pairs"))
        self.assertEqual((things[4], things[4].name), (read_program(IO, IO, DELAY), "delay"))
        leads = gives(same(IO, "in"), same(IO, "out"))
        self.assertEqual(things[5], leads)
        self.assertEqual(things[6], each(things[2]))
        self.assertEqual(things[7], both(IO, leads, bar(things[3]), carried(things[4], leads), all_rule(IO)))
        self.assertEqual(str(things[7]), "both(gives(same(in),same(out)),bar(pairs),carried(delay,gives(same(in),same(out))),"
                                         "all)")
        self.assertEqual((things[9].read, things[9].write, things[9].name), (IO, S, "narrow"))
        self.assertEqual(things[10].letters, IO)

    def test_none_and_tuples(self):
        self.assertEqual(read_entries([]), [])
        found = read_entries(deeds=tuple(DEEDS))
        found.clear()
        self.assertEqual(len(read_entries(DEEDS)), len(DEEDS))

    def test_bad_deeds_first(self):
        late = [("letters", "NO", "bad"), ("letters", "NO", "bad")]
        for wrong in ((), ("drop", "NO"), ("drop", "io"), ("rule", "x", "io"), ("lot", "x", "y")):
            self.fails(BadDeed, (), read_entries, late * 25 + [wrong])
            self.fails(BadDeed, (), read_entries, [wrong] + late)

    def test_bad_names_ahead_of_names_twice(self):
        good = ("letters", "io", "in:01 out:01")
        for name in ("", "A", "a1", "seventh", "a b", "a\n"):
            self.fails(BadName, (name,), read_entries, [good, good, ("rule", name, "NO", "("), ("letters", "X", "")])
        self.fails(HeldTwice, ("io",), read_entries, [("letters", "io", "bad"), ("letters", "s", "bad"),
                                                     ("rule", "io", "q", "("), ("letters", "s", "")])
        self.fails(HeldTwice, ("b",), read_entries, [("letters", name, "bad") for name in ("a", "b", "b", "a")])

    def test_forty_entries(self):
        names = [one + two for one in "abcdef" for two in "abcdefg"]
        deeds = [("letters", name, "s:01") for name in names]
        self.assertEqual(read_entries(deeds[:40]), [S] * 40)
        self.fails(TooMany, ("entries", 41), read_entries, deeds[:40] + [("letters", "zz", "bad")])
        self.fails(TooMany, ("entries", 42), read_entries, [("rule", "zz", "zz", "(")] + deeds[:41])
        self.fails(HeldTwice, ("aa",), read_entries, deeds[:41] + deeds[:1])

    def test_letters_that_are_not_known(self):
        letters = ("letters", "io", "in:01 out:01")
        machine = ("machine", "m", "io", PAIRS)
        for deed in (("machine", "x", "NO", "bad"), ("program", "x", "NO", "no", "bad"), ("rule", "x", "NO", "(")):
            self.fails(UnknownName, ("NO",), read_entries, [letters, machine, deed])
        # of a program, the first letters come ahead of the second ones
        self.fails(UnknownName, ("k",), read_entries, [letters, ("program", "x", "io", "k", "bad")])
        self.fails(UnknownName, ("l",), read_entries, [letters, ("program", "x", "l", "k", "bad")])
        # entries of another kind are not known, and nor are the entry itself and those behind it
        self.fails(UnknownName, ("m",), read_entries, [letters, machine, ("machine", "x", "m", "bad")])
        self.fails(UnknownName, ("m",), read_entries, [letters, machine, ("program", "x", "io", "m", "bad")])
        self.fails(UnknownName, ("x",), read_entries, [letters, ("rule", "x", "x", "(")])
        self.fails(UnknownName, ("io",), read_entries, [machine, letters])

    def test_names_in_rules(self):
        base = DEEDS[:6]
        for text, name in (("each(leads)", "leads"), ("bar(delay)", "delay"), ("carried(pairs,all)", "pairs"),
                           ("ends", "ends"), ("io", "io"), ("both(leads,none,pairs)", "pairs"), ("x", "x"),
                           ("gives(later,leads)", "later"), ("carried(x,y)", "x"), ("carried(leads,y)", "leads")):
            self.fails(UnknownName, (name,), read_entries,
                       base + [("rule", "x", "io", text), ("rule", "later", "io", "all")])

    def test_errors_of_texts(self):
        for error, values, deed in (
                (BadText, (0, "form"), ("letters", "x", "s=01")),
                (BadLetters, (1,), ("letters", "x", "s:01 s:01")),
                (TooMany, ("letters", 32), ("letters", "x", "s:01 t:0123456789abcdef")),
                (BadText, (2, "form"), ("machine", "x", "s", "machine 1\nstanding a\n2 a\n")),
                (BadText, (1, "missing"), ("machine", "x", "s", "machine 1\n")),
                (BadText, (2, "unknown"), ("program", "x", "s", "s", "program\nstanding a\n0 1 b\n")),
                (BadText, (0, "form"), ("rule", "x", "io", "same(in")),
                (UnknownPart, ("x",), ("rule", "x", "io", "same(x)")),
                (UnlikeParts, ("in:01 out:01", "s:01"), ("rule", "x", "io", "each(ends)")),
                (UnlikeParts, ("s:01", "in:01 out:01"), ("rule", "x", "s", "leads")),
                (UnlikeParts, ("s:01", "in:01 out:01"), ("rule", "x", "s", "carried(delay,all)")),
                (BreaksBeside, ([()],), ("rule", "x", "s", "beside(-,none)"))):
            self.fails(error, values, read_entries, DEEDS + [deed, ("rule", "y", "NO", "(")])
        # of several wrong entries the first one counts
        self.fails(BadText, (0, "form"), read_entries, [("letters", "a", "x"), ("rule", "b", "NO", "(")])
        self.fails(UnknownName, ("NO",), read_entries, [("rule", "b", "NO", "("), ("letters", "a", "x")])

    def test_words_that_are_names(self):
        """Rules called all and none are not known by these words; machines may be called so."""
        found = read_entries([("letters", "all", "s:01"), ("machine", "none", "all", ENDS),
                              ("rule", "each", "all", "each(none)"), ("rule", "both", "all", "both(each,all,none)")])
        self.assertEqual(str(found[3]), "both(each(none),all,none)")


if __name__ == "__main__":
    unittest.main()
