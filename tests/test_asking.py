import random
import unittest

from fewbreak.asking import Asker
from fewbreak.carrying import carries
from fewbreak.choices import choices
from fewbreak.desk import Desk
from fewbreak.errors import BadDeed, BadRun, NotEnough, TooMany, UnknownName, UnlikeParts, UnlikeTapes
from fewbreak.follows import follows, is_against
from fewbreak.kept import keeps
from fewbreak.ranks import ladder, rank
from fewbreak.rules import carried, each
from fewbreak.runs import read_lot
from fewbreak.tables import table, table_fault
from plain import IO, Case
from test_entries import DEEDS, ENDS, FLIP, PAIRS

MORE = [("rule", "led", "io", "led(in;out)"), ("rule", "out", "io", "same(out)"), ("rule", "in", "io", "same(in)"),
        ("rule", "fine", "io", "all"), ("rule", "nil", "io", "none"), ("rule", "five", "io", "either(in,out,nil)"),
        ("machine", "few", "io", "machine 1\nstanding a\n00 b\n10 b\nstanding b end\n"), ("letters", "back", "s:10"),
        ("rule", "odd", "back", "all"), ("program", "flip", "s", "s", FLIP), ("rule", "forty", "io", "both(" + ",".join(
            ["gives(in,out)"] * 13) + ")"), ("rule", "told", "io", "beside(00 11 - 00.00,all)")]


def some_desk():
    return Desk.played([tuple(DEEDS), tuple(MORE)])


def expected(desk, question):
    """The answer to a question, by the functions that it stands for."""
    things = [desk.thing(name) for name in question[1:] if isinstance(name, str)]
    if question[0] == "rank":
        many = rank(things[0])
        return "rank", many, ladder(things[0])[-1] if many else None
    if question[0] == "choice":
        stock = [desk.thing(name) for name in question[1]]
        try:
            return "enough", list(choices(stock, things[0]))[0]
        except NotEnough as error:
            return "short", error.lot
    if question[0] == "follows":
        rules, wish = [desk.thing(name) for name in question[1]], things[0]
        lot = follows(rules, wish)
    elif question[0] == "keeps":
        rules, wish = [each(things[0])], things[1]
        lot = keeps(*things)
    else:
        rules, wish = [things[0]], carried(things[1], things[2])
        lot = carries(*things)
    return ("yes", table(rules, wish)) if lot is None else ("no", lot)


RULES = ["leads", "many", "same", "wide", "led", "out", "in", "fine", "nil", "forty", "told"]
QUESTIONS = ([("follows", rules, wish) for rules in ((), ("led",), ("leads", "in"), ("out", "in", "in"), ("wide",))
              for wish in RULES]
             + [("keeps", "few", rule) for rule in RULES] + [("keeps", "ends", "one")]
             + [("carries", before, "delay", after) for before in ("leads", "led", "in") for after in RULES[:9]]
             + [("carries", "wide", "narrow", "one"), ("carries", "one", "flip", "one")]
             + [("rank", rule) for rule in RULES + ["one", "odd"]]
             + [("choice", stock, wish) for stock in ((), ("in",), ("in", "out", "leads", "led", "nil"), ("led", "in"))
                for wish in RULES])


class AskTest(Case):
    def test_each_kind(self):
        desk = some_desk()
        asker = Asker(desk)
        words = {}
        for question in QUESTIONS:
            answer = asker.ask(question)
            self.assertEqual(answer, expected(desk, question), question)
            self.assertIs(type(answer), tuple)
            words.setdefault(question[0], set()).add(answer[0])
        self.assertEqual(asker.worked, len(QUESTIONS))
        self.assertIs(asker.desk, desk)
        both_words = {"yes", "no"}
        self.assertEqual(words, {"follows": both_words, "keeps": both_words, "carries": both_words, "rank": {"rank"},
                                 "choice": {"enough", "short"}})

    def test_small(self):
        asker = Asker(some_desk())
        self.assertEqual(asker.ask(("follows", ("leads",), "led")), ("no", [("00",), ("01", "00")]))
        self.assertEqual(asker.ask(("follows", (), "fine")), ("yes", []))
        self.assertEqual(asker.ask(("keeps", "few", "same")), ("no", [("00",), ("10",)]))
        self.assertEqual(asker.ask(("rank", "leads")), ("rank", 2, [("00",), ("01",)]))
        self.assertEqual(asker.ask(("rank", "fine")), ("rank", 0, None))
        self.assertEqual(asker.ask(("rank", "nil")), ("rank", 1, [()]))
        self.assertEqual(asker.ask(("choice", ("fine", "leads", "in", "out"), "out")), ("enough", (3,)))
        self.assertEqual(asker.ask(("choice", ("fine", "leads", "in"), "out")), ("enough", (1, 2)))
        self.assertEqual(asker.ask(("choice", ("fine", "leads"), "out")), ("short", [(), ("00",)]))
        self.assertEqual(asker.ask(("choice", (), "fine")), ("enough", ()))

    def test_told_again(self):
        desk = some_desk()
        asker = Asker(desk)
        for question in QUESTIONS * 2:
            asker.ask(question)
        self.assertEqual(asker.worked, len(QUESTIONS))
        # another question with the same answer is another question
        asker.ask(("follows", ("leads", "in", "in"), "out"))
        asker.ask(("follows", ("in", "leads"), "out"))
        self.assertEqual(asker.worked, len(QUESTIONS) + 2)
        # another asker remembers nothing
        other = Asker(desk=desk)
        self.assertEqual(other.worked, 0)
        other.ask(question=("rank", "leads"))
        self.assertEqual((other.worked, asker.worked), (1, len(QUESTIONS) + 2))

    def test_after_changes(self):
        desk = some_desk()
        asker = Asker(desk)
        question = ("follows", ("many",), "led")
        first = asker.ask(question)
        # nothing that the question uses has changed
        for deed in (("rule", "out", "io", "all"), ("letters", "new", "s:01"), ("drop", "told"), ("drop", "five"),
                     ("letters", "s", "s:01")):
            desk.do(deed)
            self.assertEqual(asker.ask(question), first)
        self.assertEqual(asker.worked, 1)
        # the rule leads is used by the rule many
        desk.do(("rule", "leads", "io", "led(in;out)"))
        self.assertEqual(asker.ask(question), expected(desk, question))
        self.assertNotEqual(asker.ask(question)[0], first[0])
        self.assertEqual(asker.worked, 2)
        desk.undo()
        self.assertEqual((asker.ask(question), asker.worked), (first, 2))
        desk.redo()
        asker.ask(question)
        desk.do(DEEDS[5])
        self.assertEqual((asker.ask(question), asker.worked), (first, 2))
        # the program delay, and the letters that all of them use
        desk.do(("program", "delay", "io", "io", "program\nstanding a end\n?? == a\n"))
        asker.ask(question)
        self.assertEqual(asker.worked, 3)
        desk.begin()
        desk.do(("machine", "pairs", "io", PAIRS + "01 00 a\n"))
        asker.ask(question)
        self.assertEqual(asker.worked, 4)
        desk.throw()
        asker.ask(question)
        self.assertEqual(asker.worked, 4)

    def test_deeds_that_say_the_same_otherwise(self):
        """Answers rest on deeds, not on what they put: another text is another deed."""
        desk = some_desk()
        asker = Asker(desk)
        asker.ask(("rank", "many"))
        desk.do(("rule", "leads", "io", "gives(both(same(in)),same(out))"))
        self.assertEqual(asker.ask(("rank", "many")), expected(desk, ("rank", "many")))
        self.assertEqual(asker.worked, 2)

    def test_entries_put_anew(self):
        desk = some_desk()
        asker = Asker(desk)
        first = asker.ask(("rank", "nil"))
        desk.do(("drop", "five"))
        desk.do(("drop", "nil"))
        self.fails(UnknownName, ("nil",), asker.ask, ("rank", "nil"))
        desk.do(("rule", "nil", "io", "none"))
        self.assertEqual((asker.ask(("rank", "nil")), asker.worked), (first, 1))

    def test_drawn_series(self):
        """Answers are those of the present entries, and counted once for each question and all deeds behind it."""
        for seed in range(25):
            source = random.Random(seed)
            desk = some_desk()
            asker = Asker(desk)
            known = set()
            for _ in range(30):
                if source.random() < 0.4:
                    deed = source.choice([("rule", "leads", "io", "same(in)"), DEEDS[5], ("rule", "in", "io", "same()"),
                                          MORE[2], ("rule", "nil", "io", "in"), MORE[4], ("rule", "wide", "io", "led(;out)"),
                                          ("machine", "ends", "s", "machine 1\nstanding a end\n* a\n"), DEEDS[2],
                                          ("machine", "few", "io", "machine 1\nstanding a end\n0? a\n")])
                    desk.do(deed) if source.random() < 0.7 or len(desk.steps()) < 4 else desk.undo()
                question = source.choice(QUESTIONS)
                self.assertEqual(asker.ask(question), expected(desk, question))
                names = [name for part in question[1:] for name in ([part] if isinstance(part, str) else part)]
                names += [name for one in names for name in desk.used(one)]
                known.add((question, frozenset(desk.deed(name) for name in names)))
                self.assertEqual(asker.worked, len(known))

    def test_no_form(self):
        asker = Asker(some_desk())
        for question in ((), ("rank",), ("rank", "x", "y"), ("follows", "leads", "led"), ("follows", ("leads",)),
                         ("follows", ["leads"], "led"), ["follows", ("leads",), "led"], ["rank", "leads"],
                         ("choice", ["in"], "out"), ("choice", "in", "out"), ("keeps", ("few",), "out"), ("keeps", "few"),
                         ("keeps", "few", "out", "in"), ("carries", "in", "delay"), ("carries", "in", ("delay",), "out"),
                         ("carries", ("in",), "delay", "out"), ("rank", ("leads",)), ("follows", ("leads",), ("led",)),
                         ("choice", ("in",), ("out",)), ("rank", ["leads"]), ("drop", "leads"), ("", "leads"), ("leads",),
                         ("Rank", "leads"), (("rank",), "leads"), ("follows", (("leads",),), "led"),
                         ("choice", (["in"],), "out"), ("follows", ("leads",), "led", ())):
            self.fails(BadDeed, (), asker.ask, question)
            self.fails(BadDeed, (), asker.judged, question, ("yes", []))
        self.assertEqual(asker.worked, 0)

    def test_unknown_names(self):
        asker = Asker(some_desk())
        for question, name in ((("follows", ("leads", "x", "y"), "z"), "x"), (("follows", ("leads",), "z"), "z"),
                               (("follows", (), "few"), "few"), (("follows", ("delay",), "x"), "delay"),
                               (("keeps", "leads", "few"), "leads"), (("keeps", "few", "few"), "few"),
                               (("keeps", "delay", "x"), "delay"), (("keeps", "io", "x"), "io"),
                               (("carries", "few", "x", "y"), "few"), (("carries", "in", "few", "y"), "few"),
                               (("carries", "in", "delay", "delay"), "delay"), (("carries", "in", "in", "y"), "in"),
                               (("rank", "s"), "s"), (("rank", ""), ""), (("choice", ("x", "y"), "z"), "x"),
                               (("choice", ("in",), "ends"), "ends"), (("choice", ("in", "io"), "x"), "io")):
            self.fails(UnknownName, (name,), asker.ask, question)
            if question[0] not in ("rank", "choice"):
                self.fails(UnknownName, (name,), asker.judged, question, ("no", [("9",)]))
        self.assertEqual(asker.worked, 0)

    def test_errors_of_answers(self):
        desk = some_desk()
        asker = Asker(desk)
        six = ("rule", "six", "io", "beside(,either(five,nil))")
        desk.do(six)
        for question, error, values in (
                (("follows", ("leads", "one", "odd"), "five"), UnlikeParts, ("in:01 out:01", "s:01")),
                (("follows", ("six",), "five"), TooMany, ("tapes", 5)),
                (("follows", ("six",), "in"), TooMany, ("tapes", 6)),
                (("keeps", "pairs", "one"), UnlikeTapes, (2, 1)),
                (("keeps", "few", "one"), UnlikeParts, ("s:01", "in:01 out:01")),
                (("keeps", "few", "five"), TooMany, ("tapes", 5)),
                (("carries", "one", "delay", "one"), UnlikeParts, ("in:01 out:01", "s:01")),
                (("carries", "in", "delay", "one"), UnlikeParts, ("in:01 out:01", "s:01")),
                (("carries", "odd", "flip", "in"), UnlikeParts, ("s:01", "s:10")),
                (("carries", "six", "delay", "forty"), TooMany, ("forms", 41)),
                (("carries", "six", "delay", "five"), TooMany, ("tapes", 5)),
                (("carries", "six", "delay", "in"), TooMany, ("tapes", 6)),
                (("rank", "five"), TooMany, ("tapes", 5)),
                (("choice", ("odd",) * 9, "five"), TooMany, ("rules", 9)),
                (("choice", ("in", "one", "odd"), "five"), UnlikeParts, ("in:01 out:01", "s:01")),
                (("choice", ("in", "six"), "in"), TooMany, ("tapes", 6))):
            for _ in range(2):
                self.fails(error, values, asker.ask, question)
        self.assertEqual(asker.worked, 0)
        self.assertEqual(asker.ask(("rank", "in"))[1], 2)
        self.assertEqual(asker.worked, 1)

    def test_new_lists(self):
        asker = Asker(some_desk())
        for question in (("follows", ("leads",), "led"), ("follows", ("led",), "leads"), ("rank", "leads"),
                         ("choice", (), "nil")):
            first = asker.ask(question)
            wanted = (first[0],) + tuple(list(item) if isinstance(item, list) else item for item in first[1:])
            first[-1].clear()
            self.assertEqual(asker.ask(question), wanted)
        self.assertEqual(asker.worked, 4)


class JudgedTest(Case):
    def test_against_the_functions(self):
        desk = some_desk()
        asker = Asker(desk)
        found = {}
        for at, question in enumerate(QUESTIONS):
            if question[0] in ("rank", "choice"):
                self.fails(BadDeed, (), asker.judged, question, ("yes", []))
                continue
            source = random.Random(at)
            word, shown = expected(desk, question)
            changed = list(shown)
            source.shuffle(changed)
            self.assertIs(asker.judged(question, (word, changed + changed[:1])), True)
            self.assertIs(asker.judged(question, (word, tuple(changed))), True)
            rules, wish = self.rules_of(desk, question)
            if word == "yes":
                del changed[:source.randint(0, 2)]
                right = table_fault(rules, wish, changed) is None
            else:
                letters = wish.letters.listed()
                changed[source.randrange(len(changed))] = (source.choice(letters),) * source.randint(0, 2)
                right = is_against(rules, wish, changed)
            self.assertIs(asker.judged(question, (word, changed)), right)
            found[word, right] = found.get((word, right), 0) + 1
        self.assertEqual(asker.worked, 0)
        self.assertEqual(len(found), 4)

    def rules_of(self, desk, question):
        things = [desk.thing(name) for name in question[1:] if isinstance(name, str)]
        if question[0] == "follows":
            return [desk.thing(name) for name in question[1]], things[0]
        if question[0] == "keeps":
            return [each(things[0])], things[1]
        return [things[0]], carried(things[1], things[2])

    def test_wrong_words(self):
        """A table is no answer to a question whose answer is a lot, and the other way round."""
        asker = Asker(some_desk())
        lot = read_lot(IO, "00 01.00")
        self.assertTrue(asker.judged(("follows", ("leads",), "led"), ("no", lot[::-1] + lot)))
        self.assertFalse(asker.judged(("follows", ("led",), "leads"), ("no", lot)))
        self.assertFalse(asker.judged(("follows", ("led",), "leads"), ("no", [])))
        self.assertFalse(asker.judged(("follows", ("leads",), "led"), ("yes", [])))
        self.assertFalse(asker.judged(("follows", ("leads",), "led"), ("yes", [(0, 0)])))
        self.assertTrue(asker.judged(("follows", ("leads",), "fine"), ("yes", [])))
        self.assertFalse(asker.judged(question=("follows", (), "fine"), answer=("no", [])))
        # lots need not be the first ones
        self.assertFalse(asker.judged(("keeps", "few", "out"), ("no", read_lot(IO, "00 10 01.00"))))
        self.assertFalse(asker.judged(("keeps", "few", "in"), ("no", read_lot(IO, "00 01"))))
        self.assertTrue(asker.judged(("keeps", "few", "in"), ("no", read_lot(IO, "10 00"))))

    def test_present_entries(self):
        desk = some_desk()
        asker = Asker(desk)
        question = ("follows", ("led",), "leads")
        answer = asker.ask(question)
        self.assertTrue(asker.judged(question, answer))
        desk.do(("rule", "led", "io", "all"))
        self.assertFalse(asker.judged(question, answer))
        self.assertTrue(asker.judged(question, ("no", [("00",), ("01",)])))
        desk.undo()
        self.assertFalse(asker.judged(question, ("no", [("00",), ("01",)])))
        self.assertEqual(asker.worked, 1)

    def test_errors_in_order(self):
        asker = Asker(some_desk())
        for question in (("rank", "leads"), ("choice", (), "leads"), ("follows", ["x"], "y"), ()):
            self.fails(BadDeed, (), asker.judged, question, ("yes", []))
        for answer in (("maybe", []), ("rank", 2, []), ("enough", ()), ("short", []), ("Yes", []), ("", [])):
            self.fails(BadDeed, (), asker.judged, ("follows", ("x",), "y"), answer)
        self.fails(UnknownName, ("x",), asker.judged, ("follows", ("x",), "y"), ("yes", []))
        for word, shown in (("yes", [(9, 9)]), ("no", [("9",)])):
            self.fails(UnlikeTapes, (2, 1), asker.judged, ("keeps", "pairs", "one"), (word, shown))
            self.fails(UnlikeParts, ("s:01", "in:01 out:01"), asker.judged, ("keeps", "few", "one"), (word, shown))
            # the rule that a question makes comes ahead of the letters of the other rule
            self.fails(UnlikeParts, ("s:01", "in:01 out:01"), asker.judged, ("carries", "odd", "flip", "in"), (word, shown))
            self.fails(UnlikeParts, ("s:01", "s:10"), asker.judged, ("carries", "odd", "flip", "one"), (word, shown))
            self.fails(UnlikeParts, ("in:01 out:01", "s:01"), asker.judged, ("follows", ("one",), "five"), (word, shown))
            self.fails(TooMany, ("forms", 41), asker.judged, ("carries", "one", "delay", "forty"), (word, shown))
        # a table needs room, a lot does not, but it must be one of few runs
        self.fails(TooMany, ("tapes", 5), asker.judged, ("follows", (), "five"), ("yes", []))
        self.assertTrue(asker.judged(("follows", (), "five"), ("no", read_lot(IO, "- 00 11.11"))))
        self.fails(BadRun, (1,), asker.judged, ("keeps", "few", "out"), ("no", [(), ("9",), ("x",)]))
        lot = [("00",) * many for many in range(7)]
        self.fails(TooMany, ("runs", 11), asker.judged, ("follows", ("told",), "led"), ("no", lot))
        self.assertFalse(asker.judged(("follows", ("told",), "led"), ("no", lot[:6])))


if __name__ == "__main__":
    unittest.main()
