import unittest

from fewbreak.besides import beside
from fewbreak.carrying import carries, programs_part, unseen
from fewbreak.errors import TooMany, UnlikeParts
from fewbreak.follows import follows
from fewbreak.letters import Letters
from fewbreak.looks import behind_each_other, blot, look
from fewbreak.machinetexts import read_machine
from fewbreak.programs import Program
from fewbreak.programtexts import read_program
from fewbreak.ranks import alike
from fewbreak.rules import all_rule, bar, both, carried, each, either, few, gives, led, none_rule, same
from plain import (DELAY, IO, ONE, S, SIXTEEN, LotsCase, THREE, against, keeps, parts, runs, some_program, some_rule)

ABC = Letters(("a", "01"), ("b", "0"), ("c", "01"))
DELAYED = read_program(IO, IO, DELAY, program_name="delay")
FLIP = Program(S, S, [[("1", 0), ("0", 0)]], [True])
SAME = Program(S, S, [[("0", 0), ("1", 0)]], [True])
ZEROS = Program(S, S, [[("0", 0), ("0", 0)]], [True])


def five(letters):
    return either(same(letters), same(letters), none_rule(letters))


def with_forms(letters, many):
    return both(letters, *[all_rule(letters)] * (many - 1))


class CarriesTest(LotsCase):
    def test_against_all_short_lots(self):
        found = [0, 0]
        for seed in range(120):
            read, write = ((S, S), (ONE, S), (S, THREE), (IO, S), (THREE, ONE))[seed % 5]
            before, after = some_rule(read, seed, deep=1), some_rule(write, seed + 500, deep=1)
            program = some_program(read, write, 1 + seed % 3, seed)
            lot = carries(before, program, after)
            found[lot is None] += 1
            self.is_first(lot, read, against([before], carried(program, after)), after.number)
            if lot is not None:
                written = [run for run in map(program.written, lot) if run is not None]
                self.assertTrue(keeps(before, lot) and not keeps(after, written))
        self.assertGreater(min(found), 20)

    def test_examples(self):
        self.assertIsNone(carries(all_rule(IO), DELAYED, led(IO, ["in"], ["out"])))
        seen = look(IO, ["in"])
        self.assertIsNone(carries(same(IO, "in"), seen, same(seen.write, "in")))
        self.assertEqual(carries(same(IO, "out"), seen, same(seen.write, "in")), [("00",), ("10",)])
        self.assertIsNone(carries(few(0, five(S)), FLIP, all_rule(S)))

    def test_errors_in_order(self):
        self.fails(UnlikeParts, ("s:01", "in:01 out:01"), carries, all_rule(IO), some_program(S, THREE, 1, 1), five(S))
        self.fails(UnlikeParts, ("s:012", "s:01"), carries, all_rule(S), some_program(S, THREE, 1, 1), with_forms(S, 40))
        self.fails(TooMany, ("forms", 41), carries, beside([], five(S)), FLIP, with_forms(S, 40))
        self.fails(TooMany, ("forms", 41), carries, beside([], five(S)), FLIP, both(S, with_forms(S, 35), five(S)))
        self.fails(TooMany, ("tapes", 5), carries, beside([], five(S)), FLIP, both(S, with_forms(S, 34), five(S)))
        self.assertIsNone(carries(five(S), FLIP, with_forms(S, 39)))
        self.fails(TooMany, ("tapes", 5), carries, beside([], five(S) | none_rule(S)), FLIP, five(S))
        self.fails(TooMany, ("tapes", 6), carries, beside([], five(S) | none_rule(S)), FLIP, same(S))
        wide = some_program(S, SIXTEEN, 1, 1)
        self.fails(TooMany, ("columns", 17 ** 3 - 1), carries, all_rule(S), wide, same(SIXTEEN) | none_rule(SIXTEEN))


class ProgramsPartTest(LotsCase):
    def test_against_all_short_lots(self):
        found = [0, 0]
        for seed in range(120):
            read, write = ((S, S), (ONE, S), (S, ONE), (IO, S))[seed % 4]
            one, other = some_program(read, write, 1, seed), some_program(read, write, 1 + seed % 2, seed // 2 + 50)
            rule = some_rule(write, seed, deep=1)
            lot = programs_part(one, other, rule)
            left, right = carried(one, rule), carried(other, rule)
            self.assertIs(alike(left, right), lot is None)
            found[lot is None] += 1
            wish = follows([left], right)
            self.assertEqual(lot, follows([right], left) if wish is None else wish)
            if wish is not None:
                self.is_first(lot, read, against([left], right), rule.number)
            else:
                self.is_first(lot, read, against([right], left), rule.number)
        self.assertGreater(min(found), 20)

    def test_examples(self):
        ends = read_machine(S, "machine 1\nstanding a end\n0 a\n")
        self.assertIsNone(programs_part(FLIP, SAME, same(S, "s")))
        self.assertEqual(programs_part(FLIP, SAME, each(ends)), [("1",)])
        self.assertEqual(programs_part(SAME, FLIP, each(ends)), [("0",)])
        # only the second order of the two tells them apart
        self.assertIsNone(follows([carried(SAME, same(S, "s"))], carried(ZEROS, same(S, "s"))))
        self.assertEqual(programs_part(SAME, ZEROS, same(S, "s")), [("0",), ("1",)])
        self.assertEqual(programs_part(ZEROS, SAME, same(S, "s")), [("0",), ("1",)])
        self.assertIsNone(programs_part(SAME, ZEROS, same(S)))

    def test_errors_in_order(self):
        wide = some_program(S, THREE, 1, 1)
        self.fails(UnlikeParts, ("s:01", "in:01 out:01"), programs_part, FLIP, DELAYED, five(THREE))
        self.fails(UnlikeParts, ("s:012", "s:01"), programs_part, wide, FLIP, with_forms(S, 40))
        self.fails(TooMany, ("forms", 41), programs_part, FLIP, wide, with_forms(S, 40))
        self.fails(UnlikeParts, ("s:012", "s:01"), programs_part, FLIP, wide, five(S))
        self.fails(TooMany, ("tapes", 5), programs_part, FLIP, SAME, five(S))
        self.assertIsNone(programs_part(FLIP, SAME, few(0, beside([], five(S)))))


class UnseenTest(LotsCase):
    def test_against_blots(self):
        for seed in range(80):
            letters = (S, IO, ABC, Letters(("v", "01"), ("w", "0")))[seed % 4]
            rule = some_rule(letters, seed, deep=seed % 3)
            wish = [name for name in letters.names if alike(rule, carried(blot(letters, name), rule))]
            self.assertEqual(unseen(rule), wish)

    def test_plain_meaning(self):
        """A part is unseen if the signs at it never matter for a small lot."""
        for seed in range(60):
            rule = some_rule(IO, seed, deep=seed % 2)
            found = unseen(rule)
            for name in found:
                blotted = blot(IO, name)
                for part in parts(runs(IO, 1)):
                    if len(part) < 3:
                        self.assertIs(keeps(rule, part), keeps(rule, list(map(blotted.written, part))))

    def test_examples(self):
        self.assertEqual(unseen(same(IO, "in")), ["out"])
        self.assertEqual(unseen(same(IO)), ["in", "out"])
        self.assertEqual(unseen(led(IO, ["in"], ["out"])), [])
        self.assertEqual(unseen(led(IO, ["in"], ["in"])), ["in", "out"])
        self.assertEqual(unseen(all_rule(IO)), ["in", "out"])
        self.assertEqual(unseen(gives(same(IO, "in", "out"), same(IO, "in"))), ["in", "out"])

    def test_parts_with_one_sign(self):
        self.assertEqual(unseen(same(ABC, "a", "b", "c")), ["b"])
        self.assertEqual(unseen(led(ABC, ["a"], ["b"])), ["a", "b", "c"])
        self.assertEqual(unseen(same(ONE, "s")), ["s"])

    def test_rule_of_forty_forms(self):
        self.assertEqual(unseen(both(IO, *[same(IO, "out")] * 39)), ["in"])

    def test_errors(self):
        self.fails(TooMany, ("tapes", 5), unseen, five(IO))
        self.fails(TooMany, ("tapes", 5), unseen, few(1, beside([], five(IO))))
        self.fails(TooMany, ("columns", 17 ** 4 - 1), unseen, same(SIXTEEN) | same(SIXTEEN))
        self.assertEqual(unseen(few(0, beside([], five(IO)))), ["in", "out"])

    def test_new_lists(self):
        unseen(same(IO)).clear()
        self.assertEqual(unseen(same(IO)), ["in", "out"])


class FactsTest(LotsCase):
    def test_one_behind_another(self):
        for seed in range(20):
            first, second = some_program(S, THREE, 2, seed), some_program(THREE, S, 2, seed + 7)
            rule = some_rule(S, seed, deep=1)
            self.assertTrue(alike(carried(first, carried(second, rule)), carried(behind_each_other(first, second), rule)))

    def test_through_other_rules(self):
        for seed in range(20):
            program = some_program(S, THREE, 2, seed)
            one, other = some_rule(THREE, seed, deep=0, most=2), some_rule(THREE, seed + 50, deep=0, most=2)
            left, right = carried(program, one), carried(program, other)
            self.assertTrue(alike(carried(program, one & other), left & right))
            self.assertTrue(alike(carried(program, gives(one, other)), gives(left, right)))
            self.assertTrue(alike(carried(program, few(1, one)), few(1, left)))
            if one.number + other.number < 4:
                self.assertTrue(alike(carried(program, one | other), left | right))

    def test_bar(self):
        machine = read_machine(S, "machine 2\nstanding a\n0 1 b\nstanding b end\n")
        self.assertEqual(carries(all_rule(S), FLIP, bar(machine)), [("0",), ("1",)])


if __name__ == "__main__":
    unittest.main()
