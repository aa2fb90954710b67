import unittest

from fewbreak.besides import beside
from fewbreak.errors import (BadRun, BadText, BreaksBeside, HeldTwice, TooMany, UnknownName, UnknownPart, UnlikeParts,
                             UnlikeTapes)
from fewbreak.letters import Letters
from fewbreak.looks import look
from fewbreak.programs import Program
from fewbreak.rules import all_rule, bar, both, carried, each, either, few, gives, led, none_rule, same
from fewbreak.ruletexts import names_in, read_rule
from plain import Case, IO, S, some_machine, some_program, some_rule, within

M = some_machine(IO, 1, 2, 1).named("m")
PAIR = some_machine(IO, 2, 2, 2).named("pair")
IN = Letters(("in", "01"))
LOOK = look(IO, ["in"])
P = Program(LOOK.read, LOOK.write, LOOK.rows, LOOK.ends, program_name="p")
THINGS = [M, PAIR, P]
ALL = all_rule(IO)
NONE = none_rule(IO)

BAD_FORMS = """
All
all(
all)
all()
none()
all,none
every(all)
m(all)
same(
(
)
()
(all)
each()
each(m,m)
each(m
each(m))
each(all()
bar()
each(abcdefg)
each(m1)
each(M)
each(each(m))
same(,)
same(a,)
same(,a)
same(abcdefg)
same(in1)
same(a;b)
same(all())
led()
led(a)
led(a;b;c)
led(a,;b)
led(;,)
led(a;b,)
led(A;b)
both(,)
both(all,)
both(,all)
both(all,,all)
both(all)all
both(all)(all)
both(all),all
all,both(all)
either()
either(,)
either(all,)
gives()
gives(all)
gives(all,)
gives(,all)
gives(all,all,all)
few()
few(all)
few(all,2)
few(2)
few(2,)
few(,all)
few(10,all)
few(02,all)
few(-1,all)
few(x,all)
few(2,all,all)
few(2,both(all),both(all))
carried()
carried(p)
carried(p,)
carried(,all)
carried(all)
carried(p,all,all)
carried(both(all),all)
carried(abcdefg,all)
beside()
beside(all)
beside(,)
beside(-,)
beside(00,10,all)
beside(,all,all)
beside(--,all)
beside(00.,all)
beside(.00,all)
beside(00..01,all)
beside(00.-,all)
beside(0A,all)
beside(00_,all)
beside((00),all)
abcdefg
a1
a-b
1
-
both(all,abcdefg)
both(both(all)
both(all)))
gives(all,none(
named(m)
""".strip("\n").split("\n")
SPACES = (" all", "all ", "both( all)", "both(all, none)", "both(all ,none)", "both (all)", "same(in, out)", "same( )",
          "few( 2,all)", "few(2, all)", "carried(p ,all)", "each( m)", "led(in; out)", "beside( ,all)",
          "beside(00  01,all)", "beside( 00,all)", "beside(00 ,all)", "beside(00, all)", "beside(- -  -,all)", "both( )",
          "all\n", "\nall", "both(all,\nall)", "beside(00\n01,all)")


class ReadTest(Case):
    def reads(self, text, rule, told=None, letters=IO, rules_named=()):
        found = read_rule(letters, text, things_named=THINGS, rules_named=rules_named)
        self.assertEqual(found, rule)
        self.assertEqual(str(found), text if told is None else told)

    def test_each_kind(self):
        pair = (NONE, same(IO, "in"))
        for text, rule in (
                ("all", ALL), ("none", NONE), ("each(m)", each(M)), ("bar(m)", bar(M)), ("bar(pair)", bar(PAIR)),
                ("same()", same(IO)), ("same(in)", same(IO, "in")), ("same(in,out)", same(IO, "in", "out")),
                ("led(in;out)", led(IO, ["in"], ["out"])), ("led(;out)", led(IO, [], ["out"])),
                ("led(in,out;)", led(IO, ["in", "out"], [])), ("led(;)", led(IO, [], [])),
                ("led(in;in,out)", led(IO, ["in"], ["in", "out"])), ("both()", both(IO)), ("both(all)", both(IO, ALL)),
                ("both(none,same(in))", both(IO, *pair)), ("either(none)", either(NONE)),
                ("either(none,same(in))", either(*pair)), ("gives(none,same(in))", gives(*pair)),
                ("few(0,none)", few(0, NONE)), ("few(9,same(in))", few(9, same(IO, "in"))),
                ("carried(p,same(in))", carried(P, same(IN, "in"))), ("beside(,all)", beside([], ALL)),
                ("beside(-,all)", beside([()], ALL)), ("beside(- 01 00.11,all)", beside([("00", "11"), ("01",), ()], ALL)),
                ("beside(00,gives(same(in),same(out)))", beside([("00",)], gives(same(IO, "in"), same(IO, "out"))))):
            self.reads(text, rule)

    def test_orders(self):
        self.reads("same(out,in)", same(IO, "in", "out"), "same(in,out)")
        self.reads("led(out,in;out,in)", led(IO, ["in", "out"], ["in", "out"]), "led(in,out;in,out)")
        self.reads("beside(01 - 00 01 -,all)", beside([(), ("00",), ("01",)], ALL), "beside(- 00 01,all)")

    def test_nested(self):
        text = "gives(both(few(2,each(m)),either(bar(pair),led(in;))),carried(p,gives(same(in),few(1,none))))"
        self.reads(text, gives(both(IO, few(2, each(M)), either(bar(PAIR), led(IO, ["in"], []))),
                               carried(P, gives(same(IN, "in"), few(1, none_rule(IN))))))

    def test_texts_of_rules_are_read_back(self):
        for seed in range(300):
            rule = some_rule(S, seed, deep=seed % 4, most=9)
            things = [one.machine for one in within(rule) if one.machine is not None]
            programs = [one.program for one in within(rule) if one.program is not None]
            # all drawn machines have one name, and so have the programs
            if len(things) <= 1 and len(programs) <= 1:
                self.assertEqual(read_rule(S, str(rule), things_named=things + programs), rule)

    def test_known_rules(self):
        first, second = same(IO, "in"), NONE
        names = [("rule", first), ("other", second), ("rule", second), ("each", first), ("all", first), ("abcdef", NONE)]
        self.reads("rule", first, "same(in)", rules_named=names)
        self.reads("gives(rule,other)", gives(first, second), "gives(same(in),none)", rules_named=tuple(names))
        self.reads("each", first, "same(in)", rules_named=names)
        self.reads("all", ALL, rules_named=names)
        self.reads("abcdef", NONE, "none", rules_named=names)
        self.fails(UnknownName, ("same",), read_rule, IO, "same", rules_named=names)

    def test_first_thing_with_a_name_counts(self):
        other = some_machine(S, 1, 1, 1).named("m")
        program = Program(IO, IO, [[None] * 4], [True], program_name="m")
        things = (program, M, other)
        self.assertEqual(read_rule(IO, "carried(m,each(m))", things_named=things), carried(program, each(M)))
        self.fails(UnlikeParts, ("s:01", "in:01 out:01"), read_rule, S, "each(m)", things_named=things)
        self.assertEqual(read_rule(S, "each(m)", things_named=[other, M]), each(other))
        self.fails(UnlikeParts, ("in:01 out:01", "s:01"), read_rule, IO, "bar(m)", things_named=[other, M])

    def test_things_called_all_and_none(self):
        things = [M.named("all"), Program(P.read, P.write, P.rows, P.ends, program_name="none")]
        self.assertEqual(read_rule(IO, "both(each(all),carried(none,none))", things_named=things),
                         both(IO, each(M), carried(P, none_rule(IN))))


class FormTest(Case):
    def test_bad_forms(self):
        for text in ["", *BAD_FORMS, *SPACES]:
            self.fails(BadText, (0, "form"), read_rule, IO, text, things_named=THINGS)
            self.fails(BadText, (0, "form"), names_in, text)

    def test_form_comes_first(self):
        for text in ("gives(x,", "both(x,same(unknown),few(10,all))", "carried(x,all())", "beside(99,x)x"):
            self.fails(BadText, (0, "form"), read_rule, IO, text)

    def test_brackets(self):
        deep = "both(" * 39 + "each(m)" + ")" * 39
        self.assertEqual(read_rule(IO, deep, things_named=THINGS).forms, 40)
        self.assertEqual(names_in(deep), ["m"])
        for text in ("both(" * 40 + "each(m)" + ")" * 40, "both(" + ",".join(["same()"] * 40) + ")", "(" * 41):
            self.fails(BadText, (0, "form"), read_rule, IO, text, things_named=THINGS)
            self.fails(BadText, (0, "form"), names_in, text)

    def test_many_arguments(self):
        self.assertEqual(read_rule(IO, "both(" + ",".join(["all"] * 39) + ")").forms, 40)
        self.fails(TooMany, ("forms", 41), read_rule, IO, "both(" + ",".join(["all"] * 40) + ")")
        self.fails(TooMany, ("forms", 1200), read_rule, IO, "both(" + ",".join(["all"] * 1199) + ")")


class ErrorsTest(Case):
    def fails_so(self, error, values, text, rules_named=(), letters=IO):
        self.fails(error, values, read_rule, letters, text, things_named=THINGS, rules_named=rules_named)

    def test_unknown_names(self):
        for text in ("x", "each(x)", "bar(x)", "carried(x,all)", "each(p)", "bar(p)", "carried(m,all)", "m"):
            self.fails_so(UnknownName, (names_in(text)[0],), text)
        self.fails(UnknownName, ("m",), read_rule, IO, "each(m)")

    def test_unlike_parts(self):
        texts = ("s:01", "in:01 out:01")
        for text in ("each(m)", "bar(pair)", "carried(p,x)", "rule"):
            self.fails_so(UnlikeParts, texts, text, letters=S, rules_named=[("rule", ALL)])
        # the letters of the place are those that the program writes
        self.fails_so(UnlikeParts, ("in:01", "in:01 out:01"), "carried(p,each(m))")
        self.fails_so(UnlikeParts, ("in:01", "in:01 out:01"), "carried(p,both(all,rule))", [("rule", ALL)])
        self.fails_so(UnknownPart, ("out",), "carried(p,same(in,out))")

    def test_errors_of_the_functions(self):
        self.fails_so(UnlikeTapes, (2, 1), "each(pair)")
        self.fails_so(UnknownPart, ("x",), "same(in,in,x)")
        self.fails_so(HeldTwice, ("in",), "same(in,in)")
        self.fails_so(UnknownPart, ("x",), "led(x;y)")
        self.fails_so(HeldTwice, ("out",), "led(out,out;y)")
        self.fails_so(UnknownPart, ("y",), "led(out;y)")
        self.fails_so(HeldTwice, ("in",), "led(out;in,in)")
        self.fails_so(BadRun, (1,), "beside(00 02 0 zz,all)")
        self.fails_so(BadRun, (2,), "beside(00 - 00.s,none)")
        self.fails_so(BreaksBeside, ([("00",)],), "beside(01 00,none)")
        self.fails_so(TooMany, ("runs", 11), "beside(" + " ".join([".".join(["00"] * at) for at in range(1, 12)]) + ",all)")
        ten = beside([("00",) * at for at in range(10)], ALL)
        self.fails_so(TooMany, ("runs", 11), "both(rule,beside(-,all))", [("rule", ten)])
        self.fails_so(TooMany, ("forms", 41), "few(2,rule)", [("rule", both(IO, *[ALL] * 39))])

    def test_left_to_right(self):
        self.fails_so(UnknownName, ("x",), "both(x,y,same(z))")
        self.fails_so(UnknownPart, ("z",), "both(same(z),x,y)")
        self.fails_so(UnlikeTapes, (2, 1), "gives(each(pair),x)")
        self.fails_so(HeldTwice, ("in",), "either(all,led(;in,in),each(x))")

    def test_arguments_ahead_of_their_rule(self):
        self.fails_so(UnknownName, ("x",), "beside(99,x)")
        self.fails_so(BadRun, (0,), "gives(beside(99,all),x)")
        many = ",".join(["all"] * 39)
        self.fails_so(UnknownName, ("x",), "both(" + many + ",x)")
        self.fails_so(TooMany, ("forms", 41), "both(both(" + many + ",all),x)")
        self.fails_so(UnknownName, ("x",), "few(1,each(x))")
        # but the program of a carried is looked up ahead of its argument
        self.fails_so(UnknownName, ("x",), "carried(x,y)")
        self.fails_so(UnknownName, ("y",), "carried(p,y)")
        self.fails_so(UnlikeParts, ("in:01", "in:01 out:01"), "carried(p,carried(p,x))")


class NamesInTest(Case):
    def test_names(self):
        text = "both(each(m),bar(pair),few(1,rule),carried(p,gives(rule,a)),same(in),led(in;out),beside(ab.cd x,none),all)"
        self.assertEqual(names_in(text), ["a", "m", "p", "pair", "rule"])
        self.assertEqual(names_in("both()"), [])
        self.assertEqual(names_in("none"), [])
        self.assertEqual(names_in("zz"), ["zz"])
        self.assertEqual(names_in("gives(each(all),carried(none,all))"), ["all", "none"])
        self.assertEqual(names_in("beside(each m,each(same))"), ["same"])
        self.assertEqual(names_in("either(each,both,same())"), ["both", "each"])

    def test_whatever_the_names_mean(self):
        self.assertEqual(names_in("each(" + some_program(S, S, 1, 1).name + ")"), ["some"])
        self.assertEqual(names_in("beside(99 99.99.99,few(9,x))"), ["x"])


if __name__ == "__main__":
    unittest.main()
