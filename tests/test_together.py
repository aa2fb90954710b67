import unittest

from fewbreak.combine import any_row, joined, no_row
from fewbreak.errors import TooMany, UnknownPart, UnlikeParts, UnlikeTapes
from fewbreak.least import least
from fewbreak.letters import Letters, read_letters
from fewbreak.looks import look
from fewbreak.together import poured, yoked
from plain import IO, ONE, S, SIXTEEN, THREE, Case, machine_of, runs, some_machine

ABC = read_letters("a:01 b:01 c:01")
AB, BC = read_letters("a:01 b:01"), read_letters("b:01 c:01")
A, B, C = (read_letters(name + ":01") for name in "abc")
BACK = Letters(("s", "10"))


class YokedTest(Case):
    def test_against_the_looks_of_short_runs(self):
        many = 0
        for letters, choices, length in (
                (IO, ([read_letters("in:01"), read_letters("out:01")], [IO], [read_letters("out:01 in:01")],
                      [IO, read_letters("in:01")], [read_letters("out:01"), IO, read_letters("in:01")]), 3),
                (ABC, ([AB, BC], [A, B, C], [BC, AB, A, C], [read_letters("c:01 a:01"), B]), 2)):
            for sides in choices:
                for seed in range(20):
                    machines = [some_machine(side, 1, (seed + at) % 3 + 1, seed * 9 + at) for at, side in enumerate(sides)]
                    found = yoked(letters, machines)
                    self.assertEqual((found.letters, found.tapes), (letters, 1))
                    self.assertEqual(found, least(found))
                    if found.standings <= 8:
                        self.lacks_faults(found)
                    for run in runs(letters, length):
                        wanted = all(machine.takes([look(letters, machine.letters.names).written(run)])
                                     for machine in machines)
                        self.assertIs(found.takes([run]), wanted)
                        many += wanted
        self.assertGreater(many, 500)

    def test_small(self):
        side = read_letters("in:01")
        found = yoked(IO, (machine_of(side, [("0",), ("1", "1")]), any_row(read_letters("out:01"), 1)))
        self.assertEqual(found, machine_of(IO, [("00",), ("01",)] + [("1" + one, "1" + two) for one in "01" for two in "01"]))
        self.assertEqual(yoked(S, [some_machine(S, 1, 3, 5)]), least(some_machine(S, 1, 3, 5)))
        self.assertEqual(yoked(SIXTEEN, [any_row(SIXTEEN, 1)]), any_row(SIXTEEN, 1))
        self.assertEqual(yoked(machines=[no_row(A, 1), any_row(ABC, 1)], letters=ABC), no_row(ABC, 1))

    def test_errors_in_order(self):
        odd = any_row(read_letters("x:01 a:10"), 1)
        self.fails(UnlikeTapes, (2, 1), yoked, ABC, [odd] * 5 + [any_row(A, 2), any_row(A, 3)])
        self.fails(UnlikeTapes, (3, 1), yoked, ABC, [any_row(A, 3), odd, any_row(A, 2)])
        self.fails(TooMany, ("sides", 5), yoked, ABC, [odd] * 5)
        self.fails(UnknownPart, ("x",), yoked, ABC, [any_row(AB, 1), odd, any_row(read_letters("b:10"), 1)])
        self.fails(UnlikeParts, ("b:01", "b:10"), yoked, ABC, [any_row(AB, 1), any_row(read_letters("b:10"), 1), odd])
        self.fails(UnknownPart, ("c",), yoked, ABC, [any_row(AB, 1), any_row(A, 1)])
        self.fails(UnknownPart, ("a",), yoked, ABC, [])


class PouredTest(Case):
    def test_against_short_runs(self):
        for letters in (ONE, S, THREE, IO):
            for seed in range(24):
                machines = [some_machine(letters, 1, (seed + at) % 4 + 1, seed * 7 + at) for at in range(seed % 6 + 1)]
                found = poured(*machines)
                self.assertEqual((found.letters, found.tapes, found.name), (letters, 1, "made"))
                self.assertEqual(found, least(found))
                if found.standings <= 8:
                    self.lacks_faults(found)
                for run in runs(letters, 3):
                    self.assertIs(found.takes([run]), any(machine.takes([run]) for machine in machines))

    def test_small(self):
        one, two = machine_of(S, [(), ("0",)]), machine_of(S, [("1", "0"), ("0",)])
        self.assertEqual(poured(one), one)
        self.assertEqual(poured(one.named("odd")).name, "made")
        self.assertEqual(poured(one, two), joined(one, two))
        self.assertEqual(poured(one, two, no_row(S, 1), any_row(S, 1), two, one), any_row(S, 1))
        doubled = some_machine(ONE, 1, 4, 3)
        self.assertEqual(poured(doubled), least(doubled))

    def test_errors_in_order(self):
        one = any_row(S, 1)
        self.fails(UnlikeTapes, (2, 1), poured, any_row(S, 2))
        self.fails(UnlikeTapes, (3, 1), poured, one, any_row(BACK, 1), any_row(IO, 3), any_row(S, 2))
        self.fails(UnlikeParts, ("s:01", "s:10"), poured, one, one, any_row(BACK, 1), any_row(IO, 1))
        self.fails(UnlikeParts, ("s:10", "s:01"), poured, any_row(BACK, 1), one)


if __name__ == "__main__":
    unittest.main()
