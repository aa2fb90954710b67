import unittest

from fewbreak.besides import beside
from fewbreak.errors import TooMany, UnlikeParts
from fewbreak.follows import follows
from fewbreak.letters import Letters
from fewbreak.meaning import lot_keeps
from fewbreak.programs import Program
from fewbreak.ranks import alike
from fewbreak.rules import all_rule, both, carried, each, either, gives, led, none_rule, same
from fewbreak.weakest import sides_of, weakest
from plain import Case, IO, ONE, S, SIXTEEN, THREE, against, parts, rows, runs, some_machine, some_rule

BACK = Letters(("s", "10"))
FOUR = Letters(("a", "0123"))


def five(letters):
    return either(same(letters), same(letters), none_rule(letters))


class WeakestTest(Case):
    def test_against_all_small_lots(self):
        for seed in range(120):
            letters = (ONE, S, S, THREE, IO)[seed % 5]
            wish = some_rule(letters, seed, deep=seed % 3)
            rules = [some_rule(letters, seed + 1000 * at, deep=1) for at in range(1, seed % 4)]
            found = weakest(rules, wish)
            demand = against(rules, wish)
            for row in rows(letters, 2, 2 if len(letters) < 3 else 1):
                self.assertIs(lot_keeps(found, row), not any(demand(part) for part in parts(row)), (rules, wish, row))
            self.assertIn(found.kind, ("all", "bar"))
            self.assertEqual(found == all_rule(letters), follows(rules, wish) is None)
            self.assertEqual(str(found), "all" if found.kind == "all" else "bar(made)")

    def test_is_weakest(self):
        for seed in range(60):
            rules, wish = [some_rule(S, seed, deep=1)], some_rule(S, seed + 100, deep=1)
            found = weakest(rules, wish)
            self.assertIsNone(follows(rules + [found], wish))
            self.assertIsNone(follows([wish], found))
            other = some_rule(S, seed + 200, deep=1)
            self.assertIs(follows(rules + [other], wish) is None, follows([other], found) is None)

    def test_three_runs(self):
        wish = either(same(S, "s"), none_rule(S))
        found = weakest([led(S, ["s"], [])], wish)
        self.assertTrue(alike(found, wish))
        lot = runs(S, 2)[:5]
        for part in parts(lot):
            self.assertIs(lot_keeps(found, part), lot_keeps(wish, part))

    def test_follow_already(self):
        for rules, wish in (([], all_rule(S)), ([same(S, "s")], same(S)), ([none_rule(S)], each(some_machine(S, 1, 2, 1))),
                            ((), gives(five(S), all_rule(S)))):
            self.assertEqual(weakest(rules, wish), all_rule(S))

    def test_rules_of_forty_forms(self):
        one, other = both(S, *[same(S, "s")] * 39), both(S, *[same(S)] * 39)
        self.assertEqual(weakest([one, one, one], other), all_rule(S))
        self.assertTrue(alike(weakest([other, other], one), gives(same(S), same(S, "s"))))
        self.assertEqual(weakest([other], one).forms, 1)

    def test_no_common_room(self):
        # each of the two has room, although both together ask for many tapes and many letters
        wide = Program(FOUR, SIXTEEN, [[(letter, 0) for letter in SIXTEEN.listed()[:4]]], [True])
        wish = carried(wide, same(SIXTEEN, "d"))
        agree = led(FOUR, [], ["a"])
        self.fails(TooMany, ("columns", 17 ** 4 - 1), follows, [], gives(beside([], agree | agree), wish))
        self.assertTrue(alike(weakest([beside([], agree | agree)], wish), gives(agree, same(FOUR))))

    def test_errors(self):
        self.fails(UnlikeParts, ("s:01", "s:10"), weakest, [all_rule(S), all_rule(BACK), all_rule(IO)], all_rule(S))
        self.fails(TooMany, ("tapes", 5), weakest, [beside([], five(S) | none_rule(S))], five(S))
        self.fails(TooMany, ("tapes", 6), weakest, [all_rule(S), beside([], five(S) | none_rule(S))], same(S))
        self.fails(TooMany, ("columns", 17 ** 3 - 1), weakest, [], same(SIXTEEN) | none_rule(SIXTEEN))
        self.assertEqual(weakest([beside([], five(SIXTEEN))], all_rule(SIXTEEN)), all_rule(SIXTEEN))


class SidesTest(Case):
    wishes = [same(IO), same(IO, "out"), all_rule(IO), led(IO, ["in"], ["out"]), same(IO), none_rule(IO)]

    def test_sides(self):
        leads = gives(same(IO, "in"), same(IO, "out"))
        self.assertEqual(sides_of([same(IO, "in")], self.wishes), [0, 2, 4])
        self.assertEqual(sides_of([same(IO, "in"), leads], self.wishes), [0, 1, 2, 3, 4])
        self.assertEqual(sides_of((none_rule(IO),), tuple(self.wishes)), [0, 1, 2, 3, 4, 5])
        self.assertEqual(sides_of([], self.wishes), [2])
        self.assertEqual(sides_of([same(IO)], []), [])

    def test_drawn(self):
        for seed in range(30):
            rules = [some_rule(S, seed, deep=1)]
            wishes = [some_rule(S, seed + 100 * at, deep=1) for at in range(1, 5)]
            self.assertEqual(sides_of(rules, wishes), [at for at in range(4) if follows(rules, wishes[at]) is None])

    def test_errors_for_the_wishes_in_order(self):
        wishes = [same(S), five(S), all_rule(IO)]
        self.fails(TooMany, ("tapes", 5), sides_of, [all_rule(S)], wishes)
        self.fails(UnlikeParts, ("in:01 out:01", "s:01"), sides_of, [all_rule(S)], wishes[::-1])
        self.fails(UnlikeParts, ("s:01", "s:10"), sides_of, [all_rule(BACK)], wishes)
        self.assertEqual(sides_of([all_rule(BACK), five(S)], []), [])


if __name__ == "__main__":
    unittest.main()
