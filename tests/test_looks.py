import itertools
import unittest

from fewbreak.errors import BadLetters, HeldTwice, UnknownPart, UnlikeParts
from fewbreak.letters import Letters
from fewbreak.looks import behind_each_other, blot, look, narrowed
from fewbreak.programs import Program
from fewbreak.programtexts import read_program
from plain import Case, DELAY, IO, S, SIXTEEN, THREE, runs, some_program

MIXED = Letters(("a", "10"), ("b", "xyz"), ("c", "7"))


class NarrowedTest(Case):
    def test_narrowed(self):
        self.assertEqual(narrowed(MIXED, ["b"]), Letters(("b", "xyz")))
        self.assertEqual(narrowed(MIXED, ["c", "a"]), Letters(("c", "7"), ("a", "10")))
        self.assertEqual(narrowed(MIXED, ("a", "b", "c")), MIXED)

    def test_errors(self):
        for call in (narrowed, look):
            self.fails(UnknownPart, ("no",), call, MIXED, ["a", "a", "no", "non"])
            self.fails(UnknownPart, ("no",), call, MIXED, ["no", "no"])
            self.fails(HeldTwice, ("b",), call, MIXED, ["a", "b", "b", "a"])
            self.fails(HeldTwice, ("a",), call, MIXED, ["a", "b", "a", "b"])
            self.fails(HeldTwice, ("a",), call, MIXED, ["a", "b", "c", "a", "b", "c"])
            self.fails(BadLetters, (-1,), call, MIXED, [])


class LookTest(Case):
    def test_look(self):
        for many in (1, 2, 3):
            for names in itertools.permutations(MIXED.names, many):
                program = look(MIXED, list(names))
                self.assertEqual((program.read, program.write), (MIXED, narrowed(MIXED, names)))
                self.assertEqual((program.name, program.standings, program.is_end(0)), ("made", 1, True))
                for run in runs(MIXED, 2):
                    wish = tuple("".join(letter[MIXED.names.index(name)] for name in names) for letter in run)
                    self.assertEqual(program.written(run), wish)

    def test_blot(self):
        for at, name in enumerate(MIXED.names):
            program = blot(MIXED, name)
            self.assertEqual((program.read, program.write), (MIXED, MIXED))
            self.assertEqual((program.name, program.standings, program.is_end(0)), ("made", 1, True))
            for run in runs(MIXED, 2):
                wish = tuple(letter[:at] + MIXED.signs[at][0] + letter[at + 1:] for letter in run)
                self.assertEqual(program.written(run), wish)

    def test_blot_errors(self):
        for name in ("no", "", "ab"):
            self.fails(UnknownPart, (name,), blot, MIXED, name)


class BehindTest(Case):
    def test_against_a_walk(self):
        for seed in range(20):
            first = some_program(S, THREE, 3, seed)
            second = some_program(THREE, IO, 4, seed + 50)
            program = behind_each_other(first, second)
            self.assertEqual((program.read, program.write, program.name), (S, IO, "made"))
            self.assertLessEqual(program.standings, 20)
            for run in runs(S, 6):
                written = first.written(run)
                wish = None if written is None else second.written(written)
                self.assertEqual(program.written(run), wish)

    def test_drops(self):
        # the first one drops what ends in 0, the second one what is not a row of the letter 1 alone
        first = Program(S, S, [[("0", 0), ("1", 1)], [("0", 0), ("1", 1)]], [False, True])
        second = Program(S, S, [[None, ("0", 0)]], [True])
        program = behind_each_other(first, second)
        self.assertIsNone(program.written(()))
        self.assertIsNone(program.written(("1", "0")))
        self.assertIsNone(program.written(("0", "1")))
        self.assertEqual(program.written(("1", "1")), ("0", "0"))
        # no line at all
        none = behind_each_other(Program(S, S, [[None, None]], [True]), second)
        self.assertEqual((none.written(()), none.written(("1",))), ((), None))

    def test_look_behind_look(self):
        one, other = look(SIXTEEN, ["d", "a", "c"]), look(narrowed(SIXTEEN, ["d", "a", "c"]), ["c", "d"])
        self.assertEqual(behind_each_other(one, other), look(SIXTEEN, ["c", "d"]))

    def test_blot_twice(self):
        for name in MIXED.names:
            once = blot(MIXED, name)
            self.assertEqual(behind_each_other(once, once), once)

    def test_delay_twice(self):
        delay = read_program(IO, IO, DELAY)
        twice = behind_each_other(delay, look(IO, ["out"]))
        self.assertEqual(twice.written(("10", "00", "11")), ("0", "1", "0"))

    def test_errors(self):
        one, other = some_program(S, THREE, 2, 1), some_program(S, S, 2, 1)
        self.fails(UnlikeParts, ("s:012", "s:01"), behind_each_other, one, other)
        self.fails(UnlikeParts, ("s:012", "s:01"), behind_each_other, one, one)
        back = some_program(Letters(("s", "10")), S, 2, 1)
        self.fails(UnlikeParts, ("s:01", "s:10"), behind_each_other, other, back)


if __name__ == "__main__":
    unittest.main()
