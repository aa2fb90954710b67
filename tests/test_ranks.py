import unittest

from fewbreak.besides import beside
from fewbreak.errors import TooMany, UnlikeParts
from fewbreak.looks import look
from fewbreak.machinetexts import read_machine
from fewbreak.programs import Program
from fewbreak.programtexts import read_program
from fewbreak.ranks import alike, ladder, rank
from fewbreak.rules import all_rule, bar, both, carried, each, either, few, gives, led, none_rule, same
from plain import (DELAY, IO, ONE, S, SIXTEEN, THREE, LONGEST, LotsCase, against, keeps, parts, rows, some_machine,
                   some_rule)

ENDS_IN_ONE = read_machine(S, "machine 1\nstanding a\n1 b\n0 a\nstanding b end\n1 b\n0 a\n")
# takes just the row of the runs -, 0, 0.0 and 0.0.0
FOUR_LENGTHS = read_machine(ONE, "machine 4\nstanding a\n# 0 0 0 b\nstanding b\n# # 0 0 c\nstanding c\n# # # 0 d\n"
                                 "standing d end\n")


def five(letters):
    return either(same(letters), same(letters), none_rule(letters))


def four(letters):
    return either(same(letters), same(letters))


class RankTest(LotsCase):
    def drawn(self):
        for seed in range(200):
            letters = (ONE, S, S, THREE, IO)[seed % 5]
            yield letters, some_rule(letters, seed, deep=seed % 3)

    def test_against_least_broken_lots(self):
        """No least broken lot of short runs is larger than the rank, and one is as large, unless its runs are long."""
        found = {0: 0, 1: 0, 2: 0, 3: 0}
        for letters, rule in self.drawn():
            most = rank(rule)
            found[most] += 1
            self.assertLessEqual(most, rule.number)
            broken = against([], rule)
            sizes = [0]
            for row in rows(letters, 3, min(LONGEST[len(letters)], 2 if len(letters) == 1 else 1)):
                if broken(row) and not any(broken(part) for part in parts(row) if part and len(part) < 3):
                    self.assertEqual(len(set(row)), 3)
                    sizes.append(3)
            for row in rows(letters, 2, LONGEST[len(letters)]):
                if broken(row) and not broken(row[:1]) and not broken(row[1:]):
                    sizes.append(2)
                elif broken(row):
                    sizes.append(1)
            self.assertLessEqual(max(sizes), most, rule)
            if most > max(sizes):
                self.assertGreater(max(map(len, ladder(rule)[-1])), 1)
        self.assertGreater(min(found[0], found[1], found[2]), 10)

    def test_examples(self):
        self.assertEqual(rank(same(IO, "in")), 2)
        self.assertEqual(rank(led(IO, ["in"], ["out"])), 2)
        self.assertEqual(rank(gives(same(IO, "in"), same(IO, "out"))), 2)
        self.assertEqual(rank(either(same(IO, "in"), same(IO, "out"))), 2)
        self.assertEqual(rank(either(each(ENDS_IN_ONE), gives(each(ENDS_IN_ONE), none_rule(S)))), 2)
        self.assertEqual(rank(gives(each(ENDS_IN_ONE), same(S, "s"))), 2)
        self.assertEqual(rank(carried(read_program(IO, IO, DELAY), led(IO, ["in"], ["out"]))), 0)

    def test_each_rank(self):
        rule = bar(FOUR_LENGTHS)
        self.assertEqual(rank(rule), 4)
        for most in range(10):
            self.assertEqual(rank(few(most, rule)), 4 if most >= 4 else 0)
        self.assertEqual(rank(none_rule(S)), 1)
        self.assertEqual(rank(all_rule(S)), 0)
        self.assertEqual(rank(same(ONE, "s")), 2)
        self.assertEqual(rank(same(S)), 2)
        self.assertEqual(rank(led(ONE, [], ["s"])), 0)
        self.assertEqual(rank(few(1, same(S))), 0)
        self.assertEqual(rank(beside([()], same(S))), 1)
        self.assertEqual(rank(gives(none_rule(S), none_rule(S))), 0)
        self.assertEqual(rank(gives(same(S), none_rule(S))), 1)
        self.assertEqual(rank(none_rule(S) | none_rule(S)), 1)

    def test_new_and_the_same_again(self):
        rule = same(S)
        ladder(rule)[0].clear()
        ladder(rule).clear()
        self.assertEqual(ladder(rule), [[(), ("0",)], [(), ("0",)]])


class LadderTest(LotsCase):
    def test_against_all_short_lots(self):
        for seed in range(120):
            letters = (ONE, S, S, THREE, IO)[seed % 5]
            rule = some_rule(letters, seed, deep=seed % 3)
            found = ladder(rule)
            self.assertEqual(len(found), rank(rule))
            for size, lot in enumerate(found):
                self.is_first(lot, letters, against([few(size, rule)], rule), 3)
            if found:
                self.assertEqual(len(found[-1]), len(found))
                self.assertTrue(all(keeps(rule, part) for part in parts(found[-1]) if len(part) < len(found)))

    def test_examples(self):
        self.assertEqual(ladder(gives(each(ENDS_IN_ONE), same(S, "s")))[0], [("0", "1"), ("1",)])
        self.assertEqual(ladder(all_rule(S)), [])
        two = both(S, each(ENDS_IN_ONE), same(S, "s"))
        self.assertEqual(ladder(two), [[()], [("0", "1"), ("1",)]])
        self.assertEqual(ladder(bar(FOUR_LENGTHS)), [[(), ("0",), ("0", "0"), ("0", "0", "0")]] * 4)

    def test_rule_of_forty_forms(self):
        self.assertEqual(ladder(both(S, *[all_rule(S)] * 37, none_rule(S), same(S)))[0], [()])


class AlikeTest(LotsCase):
    def test_against_short_lots(self):
        found = [0, 0]
        for seed in range(150):
            letters = (ONE, S, S)[seed % 3]
            one, other = some_rule(letters, seed, deep=1), some_rule(letters, seed + 5000, deep=seed % 3)
            wish = alike(one, other)
            self.assertIs(alike(other, one), wish)
            found[wish] += 1
            if wish:
                for row in rows(letters, 2, 2):
                    self.assertIs(keeps(one, row), keeps(other, row))
            self.assertIs(alike(one, both(letters, one, one)), True)
        self.assertGreater(min(found), 3)

    def test_laws(self):
        one, other, third = same(IO, "in"), led(IO, ["in"], ["out"]), gives(same(IO, "out"), same(IO, "in"))
        for left, right in ((one & other, other & one), (one | other, other | one), (one & one, one),
                            (one & (other | third), (one & other) | (one & third)), (few(2, one), one),
                            (gives(one & other, third), gives(one, gives(other, third))), (gives(one, one), both(IO)),
                            (gives(one, other & third), (one >> other) & (one >> third)), (few(1, one), all_rule(IO)),
                            (same(IO, "in", "out"), one & same(IO, "out")), (beside([], one), one),
                            (each(some_machine(IO, 1, 3, 4)), few(1, each(some_machine(IO, 1, 3, 4))))):
            self.assertIs(alike(left, right), True, (left, right))
        for left, right in ((one, other), (one, one | other), (gives(one, other), gives(other, one)), (one, few(1, one)),
                            (beside([()], one), one), (none_rule(IO), all_rule(IO)), (same(IO), one)):
            self.assertIs(alike(left, right), False, (left, right))

    def test_carried_by_one_behind_another(self):
        seen = look(IO, ["in"])
        delay = read_program(IO, IO, DELAY)
        rule = same(seen.write, "in")
        self.assertTrue(alike(carried(seen, rule), same(IO, "in")))
        self.assertTrue(alike(carried(delay, carried(seen, rule)), same(IO, "in")))

    def test_needs_no_common_room(self):
        # there is room for the first rule at one tape and for the second one at three, but not for the first at three
        wide = Program(S, SIXTEEN, [[("0000", 0), ("1111", 0)]], [True])
        one = carried(wide, none_rule(SIXTEEN))
        other = either(none_rule(S), same(S, "s"))
        self.assertEqual((one.number, other.number), (1, 3))
        self.assertIs(alike(one, other), False)
        self.assertIs(alike(other, one), False)
        self.assertIs(alike(one, either(none_rule(S), both(S, none_rule(S), same(S)))), True)

    def test_errors(self):
        self.fails(UnlikeParts, ("s:01", "in:01 out:01"), alike, five(S), five(IO))
        self.fails(TooMany, ("tapes", 5), alike, five(S), five(S) | none_rule(S))
        self.fails(TooMany, ("tapes", 6), alike, none_rule(S), five(S) | none_rule(S))
        self.fails(TooMany, ("tapes", 5), alike, five(SIXTEEN), four(SIXTEEN))
        self.fails(TooMany, ("columns", 17 ** 4 - 1), alike, four(SIXTEEN), five(SIXTEEN))


class ErrorsTest(LotsCase):
    def test_room(self):
        for call in (rank, ladder):
            self.fails(TooMany, ("tapes", 5), call, five(SIXTEEN))
            self.fails(TooMany, ("columns", 17 ** 4 - 1), call, four(SIXTEEN))
            self.fails(TooMany, ("tapes", 5), call, few(1, beside([], five(S))))
            self.assertEqual(len(call(four(IO))) if call is ladder else call(four(IO)), 2)
        # without a number there is nothing to look at
        self.assertEqual(rank(few(0, beside([], five(SIXTEEN)))), 0)
        self.assertEqual(ladder(few(0, beside([], five(SIXTEEN)))), [])


if __name__ == "__main__":
    unittest.main()
