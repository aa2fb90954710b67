import itertools
import random
import unittest

from fewbreak.besides import beside
from fewbreak.broken import broken_rows, check_room, kept_rows
from fewbreak.combine import any_row, no_row
from fewbreak.errors import BadNumber, TooMany
from fewbreak.least import least
from fewbreak.letters import Letters
from fewbreak.machinetexts import read_machine
from fewbreak.programs import Program
from fewbreak.rules import all_rule, bar, both, carried, each, either, few, gives, led, none_rule, same
from plain import Case, IO, ONE, S, SIXTEEN, THREE, keeps, rows, some_machine, some_program, some_rule, within

ENDS_IN_ONE = read_machine(S, "machine 1\nstanding a\n1 b\n0 a\nstanding b end\n1 b\n0 a\n")
NINE = Letters(("a", "012345678"))
TEN = Letters(("a", "0123456789"))
FIVE = Letters(("a", "01234"))


def writes(read, write):
    """A program that drops nothing and writes the first letter alone."""
    return Program(read, write, [[(write.listed()[0], 0)] * len(read)], [True])


def four(letters):
    """A rule with the number 4 and one with the number 5."""
    return same(letters) | same(letters)


def five(letters):
    return either(same(letters), same(letters), none_rule(letters))


class BrokenTest(Case):
    def against_the_table(self, rule, tapes, length):
        found = broken_rows(rule, tapes)
        self.assertEqual((found.letters, found.tapes, found.name), (rule.letters, tapes, "made"))
        kept = {}
        for row in rows(rule.letters, tapes, length):
            lot = frozenset(row)
            if lot not in kept:
                kept[lot] = keeps(rule, lot)
            self.assertIs(found.takes(row), not kept[lot], (rule, row))
        return found

    def test_against_the_table(self):
        """Broken rows on 1 to 4 tapes against the plain meaning of the lot of each short row."""
        kinds = set()
        for seed in range(240):
            letters, lengths = ((ONE, (5, 4, 3, 2)), (S, (4, 3, 2, 1)), (S, (4, 3, 2, 1)), (THREE, (3, 2, 1, 0)),
                                (IO, (3, 2, 1, 0)))[seed % 5]
            rule = some_rule(letters, seed, deep=seed % 3 + 1, most=4, tapes=2 if seed % 4 else 3)
            kinds |= {one.kind for one in within(rule)}
            for tapes, length in enumerate(lengths[:3] if len(letters) > 2 else lengths, 1):
                self.against_the_table(rule, tapes, length)
        self.assertEqual(len(kinds), 12)

    def test_four_tapes_with_four_letters(self):
        for rule in (same(IO, "in"), led(IO, ["in"], ["out"]), gives(same(IO, "in"), same(IO, "out")),
                     either(same(IO, "in"), same(IO, "out")), few(1, none_rule(IO)) & same(IO),
                     beside([("00",)], same(IO, "in") | same(IO, "out"))):
            self.against_the_table(rule, 4, 1)

    def test_least(self):
        for seed in range(80):
            rule = some_rule((ONE, S, IO)[seed % 3], seed, deep=seed % 3, most=3)
            for tapes in (1, 2, 3):
                if broken_rows(rule, tapes).standings <= 12:
                    self.lacks_faults(broken_rows(rule, tapes))
                self.assertEqual(broken_rows(rule, tapes), least(broken_rows(rule, tapes)))

    def test_kept_rows(self):
        for seed in range(40):
            rule = some_rule(S, seed, most=4)
            for tapes in (1, 2, 3):
                found = kept_rows(rule, tapes)
                self.assertEqual(found, least(found))
                for row in rows(S, tapes, 3 - tapes // 2):
                    self.assertIs(found.takes(row), keeps(rule, row))

    def test_all_and_none(self):
        for letters, tapes in itertools.product((ONE, S, IO), (1, 2, 3, 4)):
            self.assertEqual(broken_rows(all_rule(letters), tapes), no_row(letters, tapes))
            self.assertEqual(kept_rows(all_rule(letters), tapes), any_row(letters, tapes))
            self.assertEqual(broken_rows(none_rule(letters), tapes), any_row(letters, tapes))
            self.assertEqual(broken_rows(both(letters), tapes), no_row(letters, tapes))

    def test_numbers_of_standings(self):
        for rule, standings in ((same(IO, "in"), 5), (led(IO, ["in"], ["out"]), 5),
                                (gives(same(IO, "in"), same(IO, "out")), 3),
                                (either(same(IO, "in"), same(IO, "out")), 7),
                                (either(each(ENDS_IN_ONE), gives(each(ENDS_IN_ONE), none_rule(S))), 13),
                                (gives(each(ENDS_IN_ONE), same(S, "s")), 11)):
            self.assertEqual(broken_rows(rule, 2).standings, standings)

    def test_one_run_at_several_tapes(self):
        machine = broken_rows(same(S, "s"), 3)
        self.assertFalse(machine.takes([("0",), ("0",), ("0",)]))
        self.assertTrue(machine.takes([("0",), ("0",), ()]))

    def test_lists_that_are_not_filled_mean_nothing_to_bar(self):
        ends_late = read_machine(S, "machine 2\nstanding a\n# ? b\nstanding b\n? ? c\nstanding c end\n* * c\n")
        self.assertEqual(broken_rows(bar(ends_late), 2), no_row(S, 2))

    def test_bar_of_more_tapes_than_runs(self):
        machine = read_machine(ONE, "machine 4\nstanding a\n# # 0 0 b\nstanding b end\n")
        for tapes in (1, 2, 3, 4):
            found = self.against_the_table(bar(machine), tapes, 2)
            self.assertIs(found == no_row(ONE, tapes), tapes == 1)

    def test_dropped_runs(self):
        for seed in range(20):
            program = some_program(S, S, 3, seed, holes=0.4)
            for rule in (none_rule(S), same(S, "s"), gives(same(S), same(S, "s"))):
                for tapes in (1, 2, 3):
                    self.against_the_table(carried(program, rule), tapes, 4 - tapes)

    def test_told_runs(self):
        long = [("0", "1", "0"), ("0", "1", "1", "1"), ("0",)]
        for lot in ([], long[:1], long[:2], long):
            for rule in (few(2, either(none_rule(S), none_rule(S), none_rule(S), none_rule(S))),
                         bar(read_machine(S, "machine 3\nstanding a\n? ? # b\nstanding b\n? # # c\nstanding c end\n")),
                         led(S, ["s"], ["s"])):
                if keeps(rule, lot):
                    for tapes in (1, 2, 3):
                        self.against_the_table(beside(lot, rule), tapes, (4, 3, 2)[tapes - 1])

    def test_asked_twice_and_again(self):
        source = random.Random(3)
        for seed in range(30):
            rule, same_rule = some_rule(S, seed), some_rule(S, seed)
            order = [1, 2, 3]
            source.shuffle(order)
            found = {tapes: broken_rows(rule, tapes) for tapes in order}
            self.assertEqual(rule, same_rule)
            for tapes in (3, 1, 2):
                self.assertEqual(broken_rows(rule, tapes), found[tapes])
                self.assertEqual(broken_rows(same_rule, tapes), found[tapes])


class RoomTest(Case):
    def has_room(self, rule, *tapes):
        for many in tapes:
            self.assertIsNone(check_room(rule, many))

    def lacks_room(self, what, found, rule, *tapes):
        for many in tapes:
            self.fails(TooMany, (what, found), check_room, rule, many)
            self.fails(TooMany, (what, found), broken_rows, rule, many)
            self.fails(TooMany, (what, found), kept_rows, rule, many)

    def test_tapes_and_columns(self):
        self.has_room(five(S), 0, 1, 2, 3, 4)
        self.lacks_room("tapes", 5, all_rule(S), 5)
        self.lacks_room("tapes", 5, all_rule(SIXTEEN), 5)
        self.has_room(all_rule(NINE), 1, 2, 3)
        self.assertEqual(broken_rows(all_rule(NINE), 3).standings, 1)
        self.lacks_room("columns", 9999, all_rule(NINE), 4)
        self.lacks_room("columns", 1330, all_rule(TEN), 3)
        self.has_room(all_rule(IO), 4)
        self.lacks_room("columns", 1295, all_rule(FIVE), 4)
        self.has_room(all_rule(SIXTEEN), 1, 2)
        self.lacks_room("columns", 4912, all_rule(SIXTEEN), 3)

    def test_letters_of_the_rules_within(self):
        rule = few(1, both(S, all_rule(S), carried(writes(S, TEN), all_rule(TEN))))
        self.has_room(rule, 1, 2)
        self.lacks_room("columns", 1330, rule, 3)
        back = carried(writes(TEN, S), all_rule(S))
        self.lacks_room("columns", 1330, back, 3)
        self.has_room(carried(writes(S, NINE), all_rule(NINE)), 3)

    def test_reach(self):
        self.has_room(four(FIVE), 1, 2, 3)
        self.lacks_room("columns", 1295, beside([], four(FIVE)), 1, 2, 3, 4)
        self.has_room(beside([()], four(IO)), 1, 2, 3, 4)
        self.lacks_room("tapes", 5, beside([], five(S)), 1, 2, 3, 4)
        # the number of the argument counts, not those of the rules within it
        self.has_room(beside([], few(3, five(S))), 1, 2, 3, 4)
        self.has_room(five(S), 1, 2, 3, 4)

    def test_reach_of_beside_within_other_rules(self):
        inner = carried(writes(S, IO), beside([], five(IO)))
        for rule in (inner, few(0, inner), gives(inner, all_rule(S)), both(S, all_rule(S), inner), inner | none_rule(S),
                     beside([], few(1, inner))):
            self.lacks_room("tapes", 5, rule, 1, 2, 3, 4)
            self.has_room(rule, 0)
        self.lacks_room("columns", 1295, carried(writes(S, FIVE), beside([], four(FIVE))), 1)
        # the reach is that of one rule, the letters are those of another one
        apart = both(S, beside([], four(S)), carried(writes(S, FIVE), all_rule(FIVE)))
        self.lacks_room("columns", 1295, apart, 1)
        self.lacks_room("tapes", 5, both(S, beside([], five(S)), carried(writes(S, FIVE), all_rule(FIVE))), 1)

    def test_tapes_ahead_of_columns(self):
        self.lacks_room("tapes", 6, all_rule(TEN), 6)
        self.lacks_room("tapes", 5, beside([], five(TEN)), 1)
        self.lacks_room("tapes", 9, beside([], five(TEN)), 9)

    def test_no_tapes(self):
        self.has_room(beside([], five(SIXTEEN)), 0)
        for tapes in (0, -1):
            self.fails(BadNumber, (tapes,), broken_rows, beside([], five(SIXTEEN)), tapes)
            self.fails(BadNumber, (tapes,), kept_rows, all_rule(S), tapes)


if __name__ == "__main__":
    unittest.main()
