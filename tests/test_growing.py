import random
import unittest

from fewbreak.besides import beside
from fewbreak.broken import broken_rows
from fewbreak.errors import BadNumber, EndedRun, NothingLeft, TooMany, UnknownRun
from fewbreak.growing import Growing
from fewbreak.letters import Letters
from fewbreak.machinetexts import read_machine
from fewbreak.rules import all_rule, bar, each, gives, led, none_rule, same
from fewbreak.runs import read_lot
from plain import IO, ONE, S, SIXTEEN, THREE, Case, five, keeps, machine_of, rows, some_rule, zero

BACK = Letters(("s", "10"))
# how many columns the ways on may have that are searched one by one, by the number of letters and of runs
LENGTHS = {(1, 1): 6, (1, 2): 5, (1, 3): 4, (1, 4): 3, (2, 1): 4, (2, 2): 3, (2, 3): 2, (2, 4): 1, (3, 1): 3, (3, 2): 2,
           (3, 3): 1, (3, 4): 0, (4, 1): 3, (4, 2): 2, (4, 3): 1, (4, 4): 0}
LEADS = gives(same(IO, "in"), same(IO, "out"))


class Plainly:
    """Growing runs, told by lists alone; each step holds what stood ahead of it."""

    def __init__(self, many):
        self.runs = [()] * many
        self.ended = [False] * many
        self.ahead = []

    def step(self, runs, ended):
        self.ahead.append((self.runs, self.ended))
        self.runs, self.ended = runs, ended

    def ways_on(self, letters, length):
        found = []
        for row in rows(letters, len(self.runs), length):
            if all(now == run if ended else now[:len(run)] == run
                   for now, run, ended in zip(row, self.runs, self.ended)):
                found.append(row)
        return found


class GrowingTest(Case):
    def agrees(self, growing, plainly, rule, known):
        letters = rule.letters
        length = LENGTHS[len(letters), growing.many]
        self.assertEqual(growing.so_far(), plainly.runs)
        self.assertEqual(growing.finished(), [at for at, ended in enumerate(plainly.ended) if ended])
        found = {True: growing.way_on(), False: growing.way_on(breaking=False)}
        words = {(True, True): "open", (False, True): "kept", (True, False): "broken"}
        verdict = growing.verdict()
        self.assertEqual(verdict, words[found[True] is not None, found[False] is not None])
        first = {True: None, False: None}
        for row in plainly.ways_on(letters, length):
            lot = frozenset(row)
            if lot not in known:
                known[lot] = keeps(rule, lot)
            if first[not known[lot]] is None:
                first[not known[lot]] = row
        for breaking, row in found.items():
            if row is None or max(map(len, row)) > length:
                self.assertIsNone(first[breaking])
            else:
                self.assertEqual(row, first[breaking])
            if row is not None:
                self.assertIs(keeps(rule, row), not breaking)
                self.assertTrue(all(now[:len(run)] == run for now, run in zip(row, plainly.runs)))
                self.assertTrue(all(row[at] == plainly.runs[at] for at in growing.finished()))
        return verdict

    def turn(self, growing, plainly, source, letters):
        """One drawn call, which may raise an error, on both."""
        word = source.choice(["grow", "grow", "grow", "grow", "finish", "step_back"])
        at = source.randrange(-1, growing.many + 1) if source.random() < 0.3 else source.randrange(growing.many)
        if word == "step_back":
            if not plainly.ahead:
                self.fails(NothingLeft, (), growing.step_back)
            else:
                self.assertIsNone(growing.step_back())
                plainly.runs, plainly.ended = plainly.ahead.pop()
            return
        letter = source.choice(letters.listed() + (["9"] if source.random() < 0.2 else []))
        values = (at, letter) if word == "grow" else (at,)
        call = getattr(growing, word)
        if not 0 <= at < growing.many:
            self.fails(UnknownRun, (at,), call, *values)
        elif plainly.ended[at]:
            self.fails(EndedRun, (at,), call, *values)
        elif word == "finish":
            self.assertIsNone(call(at))
            plainly.step(plainly.runs, [ended or index == at for index, ended in enumerate(plainly.ended)])
        elif not letters.is_letter(letter):
            self.fails(BadNumber, (letter,), call, *values)
        else:
            self.assertIsNone(call(at, letter))
            plainly.step([run + (letter,) * (index == at) for index, run in enumerate(plainly.runs)], plainly.ended)

    def test_drawn_series(self):
        verdicts = {"open": 0, "kept": 0, "broken": 0}
        for seed in range(160):
            source = random.Random(seed)
            letters = (ONE, S, S, THREE, IO)[seed % 5]
            many = seed % 4 + 1
            rule = some_rule(letters, seed, deep=seed % 3, most=4 if many > 1 else 3)
            growing, plainly, known = Growing(rule, many), Plainly(many), {}
            self.assertEqual((growing.rule, growing.many), (rule, many))
            before = {}
            for _ in range(12):
                self.turn(growing, plainly, source, letters)
                verdict = self.agrees(growing, plainly, rule, known)
                verdicts[verdict] += 1
                # once kept or broken, it stays so
                for steps, word in before.items():
                    if steps <= len(plainly.ahead) and word != "open":
                        self.assertEqual(verdict, word)
                before = {steps: word for steps, word in before.items() if steps < len(plainly.ahead)}
                before[len(plainly.ahead)] = verdict
        self.assertGreater(min(verdicts.values()), 150)

    def test_example(self):
        growing = Growing(LEADS, 2)
        self.assertEqual(growing.verdict(), "open")
        self.assertEqual(growing.way_on(), [("00",), ("01",)])
        self.assertEqual(growing.way_on(breaking=False), [(), ()])
        growing.grow(0, "00")
        growing.grow(1, "01")
        self.assertEqual(growing.verdict(), "open")
        self.assertEqual(growing.way_on(), [("00",), ("01",)])
        self.assertEqual(growing.way_on(breaking=False), [("00",), ("01", "00")])
        growing.finish(0)
        self.assertEqual(growing.verdict(), "open")
        growing.finish(1)
        self.assertEqual((growing.verdict(), growing.way_on(breaking=False)), ("broken", None))
        growing.step_back()
        growing.grow(1, "11")
        self.assertEqual((growing.verdict(), growing.way_on()), ("kept", None))
        self.assertEqual(growing.way_on(breaking=False), [("00",), ("01", "11")])

    def test_led_is_broken_for_good(self):
        growing = Growing(led(IO, ["in"], ["out"]), 2)
        for letter in ("00", "10"):
            growing.grow(0, letter)
        growing.grow(1, "00")
        self.assertEqual((growing.verdict(), growing.way_on()), ("open", [("00", "10"), ("00", "11")]))
        growing.grow(1, "11")
        self.assertEqual((growing.verdict(), growing.way_on(breaking=False)), ("broken", None))
        growing.step_back()
        growing.grow(1, "00")
        self.assertEqual(growing.verdict(), "kept")

    def test_one_run(self):
        growing = Growing(each(machine_of(S, [("0", "1")])), 1)
        self.assertEqual(growing.verdict(), "open")
        growing.grow(0, "0")
        self.assertEqual((growing.way_on(), growing.way_on(breaking=False)), ([("0",)], [("0", "1")]))
        growing.grow(0, "1")
        self.assertEqual((growing.way_on(), growing.way_on(breaking=False)), ([("0", "1", "0")], [("0", "1")]))
        growing.finish(0)
        self.assertEqual((growing.verdict(), growing.way_on()), ("kept", None))
        growing.step_back()
        growing.grow(0, "1")
        self.assertEqual(growing.verdict(), "broken")

    def test_kept_and_broken_from_the_start(self):
        for many in range(1, 5):
            self.assertEqual(Growing(all_rule(S), many).verdict(), "kept")
            self.assertIsNone(Growing(all_rule(S), many).way_on())
            self.assertEqual(Growing(all_rule(S), many).way_on(breaking=False), [()] * many)
            self.assertEqual(Growing(none_rule(S), many).verdict(), "broken")
            self.assertEqual(Growing(none_rule(S), many).way_on(breaking=True), [()] * many)
            self.assertIsNone(Growing(none_rule(S), many).way_on(breaking=False))
        self.assertEqual(Growing(same(S, "s"), 1).verdict(), "kept")
        self.assertEqual(Growing(five(S), 2).verdict(), "open")

    def test_four_runs(self):
        lengths = read_machine(ONE, "machine 4\nstanding a\n# 0 0 0 b\nstanding b\n# # 0 0 c\nstanding c\n# # # 0 d\n"
                                    "standing d end\n")
        growing = Growing(bar(lengths), 4)
        self.assertEqual(growing.way_on(), [(), ("0",), ("0", "0"), ("0", "0", "0")])
        growing.finish(3)
        self.assertEqual(growing.way_on(), [("0",), ("0", "0"), ("0", "0", "0"), ()])
        growing.grow(1, "0")
        growing.finish(1)
        growing.grow(0, "0")
        self.assertEqual(growing.way_on(), [("0", "0"), ("0",), ("0", "0", "0"), ()])
        growing.finish(0)
        self.assertEqual((growing.verdict(), growing.way_on(breaking=False)), ("kept", [("0",), ("0",), (), ()]))

    def test_all_ended(self):
        growing = Growing(same(S, "s"), 3)
        for at in (2, 0):
            growing.grow(at, "1")
            growing.finish(at)
        self.assertEqual((growing.verdict(), growing.finished()), ("open", [0, 2]))
        growing.finish(1)
        self.assertEqual((growing.verdict(), growing.way_on()), ("broken", [("1",), (), ("1",)]))
        self.assertEqual(growing.finished(), [0, 1, 2])
        for at in range(3):
            self.fails(EndedRun, (at,), growing.grow, at, "9")
            self.fails(EndedRun, (at,), growing.finish, at)

    def test_long_runs(self):
        growing = Growing(gives(same(IO, "in"), same(IO, "out")), 3)
        for turn in range(40):
            for at in range(3):
                growing.grow(at, ("00", "01", "10")[at] if turn == 30 else "00")
        self.assertEqual(growing.way_on(breaking=False), [("00",) * 30 + (letter,) + ("00",) * 9 + more for letter, more
                                                          in (("00", ()), ("01", ("00",)), ("10", ()))])
        for at in range(2):
            growing.finish(at)
        self.assertEqual(growing.verdict(), "broken")
        for at in range(122):
            growing.step_back()
        self.fails(NothingLeft, (), growing.step_back)
        self.assertEqual((growing.so_far(), growing.finished()), ([()] * 3, []))

    def test_step_back_over_all_steps(self):
        growing = Growing(rule=LEADS, many=2)
        told = []
        for word, values in (("grow", (0, "01")), ("grow", (1, "00")), ("finish", (0,)), ("grow", (1, "10")),
                             ("finish", (1,))):
            told.append((growing.so_far(), growing.finished(), growing.verdict(), growing.way_on()))
            getattr(growing, word)(*values)
        self.assertEqual(growing.so_far(), [("01",), ("00", "10")])
        for state in told[::-1]:
            self.assertIsNone(growing.step_back())
            self.assertEqual((growing.so_far(), growing.finished(), growing.verdict(), growing.way_on()), state)
        for _ in range(2):
            self.fails(NothingLeft, (), growing.step_back)

    def test_told_runs(self):
        growing = Growing(beside(read_lot(IO, "00.10 01"), LEADS), 1)
        self.assertEqual(growing.way_on(), [("00",)])
        growing.grow(0, "01")
        growing.grow(at=0, letter="10")
        self.assertEqual((growing.verdict(), growing.way_on()), ("open", [("01", "10")]))
        growing.finish(at=0)
        self.assertEqual(growing.verdict(), "broken")

    def test_errors_in_order(self):
        for many in (0, -1, 5, 100):
            self.fails(BadNumber, (many,), Growing, zero(S), many)
        self.fails(TooMany, ("tapes", 5), Growing, zero(S), 1)
        self.fails(TooMany, ("columns", 17 ** 3 - 1), Growing, all_rule(SIXTEEN), 3)
        self.assertEqual(Growing(all_rule(SIXTEEN), 2).verdict(), "kept")
        growing = Growing(same(S), 2)
        growing.grow(1, "0")
        growing.finish(0)
        for at in (2, -1):
            self.fails(UnknownRun, (at,), growing.grow, at, "9")
            self.fails(UnknownRun, (at,), growing.finish, at)
        self.fails(EndedRun, (0,), growing.grow, 0, "9")
        for letter in ("9", "", "00", "#"):
            self.fails(BadNumber, (letter,), growing.grow, 1, letter)
        self.assertEqual((growing.so_far(), growing.finished()), ([(), ("0",)], [0]))
        growing.step_back()
        self.assertEqual((growing.so_far(), growing.finished()), ([(), ("0",)], []))

    def test_lists_are_its_own(self):
        growing = Growing(same(BACK, "s"), 2)
        growing.grow(0, "1")
        growing.finish(0)
        growing.so_far().clear()
        growing.finished().clear()
        growing.way_on().clear()
        self.assertEqual((growing.so_far(), growing.finished()), ([("1",), ()], [0]))
        self.assertEqual(growing.way_on(), [("1",), ()])
        self.assertTrue(broken_rows(growing.rule, 2).takes(growing.way_on()))
        # the first letter in order is 1
        self.assertEqual(Growing(led(BACK, [], ["s"]), 2).way_on(), [("1",), ("0",)])


if __name__ == "__main__":
    unittest.main()
