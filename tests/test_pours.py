import itertools
import unittest

from fewbreak.besides import beside
from fewbreak.errors import BadRun, TooMany, UnlikeParts
from fewbreak.letters import Letters, read_letters
from fewbreak.machinetexts import read_machine
from fewbreak.pours import pours, pours_not
from fewbreak.ranks import rank
from fewbreak.rules import all_rule, bar, each, either, few, gives, none_rule, same
from plain import IO, LONGEST, ONE, S, SIXTEEN, LotsCase, keeps, rows, some_rule

O = read_letters("o:01")
BACK = Letters(("s", "10"))
ENDS_IN_ONE = read_machine(S, "machine 1\nstanding a\n1 b\n0 a\nstanding b end\n1 b\n0 a\n")
# takes just the row of the runs -, 0 and 0.0
THREE_LENGTHS = read_machine(ONE, "machine 3\nstanding a\n# 0 0 b\nstanding b\n# # 0 c\nstanding c end\n")


def five(letters):
    return either(same(letters), same(letters), none_rule(letters))


def shows(rules, wish, row, colours):
    """Whether a coloured row shows that rules do not pour to a wish."""
    if keeps(wish, row):
        return False
    return all(keeps(rule, [run for run, colour in zip(row, colours) if colour == index])
               for index, rule in enumerate(rules))


def first_coloured(rules, wish, length):
    """The first coloured row whose runs have at most so many letters, with the order of the document."""
    for longest in range(length + 1):
        for tapes in range(1, wish.number + 1):
            for colours in itertools.product(range(len(rules)), repeat=tapes):
                for row in rows(wish.letters, tapes, longest):
                    if max(map(len, row)) == longest and shows(rules, wish, row, colours):
                        return list(zip(row, colours))
    return None


class PoursTest(LotsCase):
    def test_example(self):
        self.assertEqual(pours([same(O, "o"), same(O, "o")], same(O, "o")), [((), 0), (("0",), 1)])

    def test_against_all_short_rows(self):
        found = [0, 0]
        for seed in range(120):
            letters = (ONE, S, S, IO)[seed % 4]
            length = min(2, LONGEST[len(letters)])
            wish = some_rule(letters, seed, deep=1, most=3 if len(letters) < 3 else 2)
            rules = [some_rule(letters, seed + 400 * at, deep=seed % 3) for at in range(1, seed % 3 + 2)]
            coloured = pours(rules, wish)
            found[coloured is None] += 1
            plainly = first_coloured(rules, wish, length)
            if coloured is None or max(len(run) for run, _ in coloured) > length:
                self.assertIsNone(plainly)
            else:
                self.assertEqual(coloured, plainly)
            if coloured is not None:
                self.assertTrue(pours_not(rules, wish, coloured))
                self.assertTrue(all(type(pair) is tuple for pair in coloured))
        self.assertGreater(min(found), 20)

    def test_order(self):
        # the shortest longest run comes ahead of fewer tapes
        long_alone = each(read_machine(S, "machine 1\nstanding a end\n? b\nstanding b end\n? c\nstanding c\n? c\n"))
        wish = long_alone & same(S, "s")
        self.assertEqual(pours([all_rule(S)], wish), [((), 0), (("0",), 0)])
        # then fewer tapes come ahead of smaller colours, and these ahead of earlier rows
        ends = each(ENDS_IN_ONE)
        self.assertEqual(pours([few(1, each(ENDS_IN_ONE)), same(S, "s")], same(S, "s")), [(("1",), 0), ((), 1)])
        self.assertEqual(pours([same(S, "s"), few(1, ends)], same(S, "s")), [((), 0), (("1",), 1)])
        self.assertEqual(pours([ends, all_rule(S)], same(S, "s")), [(("1",), 0), ((), 1)])
        self.assertEqual(pours([none_rule(S), ends, all_rule(S)], each(ENDS_IN_ONE)), [((), 2)])

    def test_three_runs(self):
        wish = bar(THREE_LENGTHS)
        self.assertEqual(pours([wish, wish], wish), [((), 0), (("0",), 0), (("0", "0"), 1)])
        self.assertEqual(pours([few(2, all_rule(ONE)), wish], wish), [((), 0), (("0",), 0), (("0", "0"), 0)])
        self.assertEqual(pours([same(ONE), same(ONE), same(ONE)], wish), [((), 0), (("0",), 1), (("0", "0"), 2)])
        self.assertIsNone(pours([same(ONE), same(ONE)], wish))

    def test_four_tapes(self):
        rule = same(S) | same(S)
        self.assertEqual(pours([rule, rule], rule), [((), 0), (("0",), 1)])

    def test_with_itself(self):
        for seed in range(60):
            rule = some_rule(S, seed, deep=1)
            self.assertIs(pours([rule, rule], rule) is None, rank(rule) <= 1)

    def test_one_rule_is_following(self):
        self.assertIsNone(pours([same(S, "s")], same(S)))
        self.assertEqual(pours([same(S)], same(S, "s")), [(("0",), 0), (("1",), 0)])

    def test_no_rules(self):
        for wish in (none_rule(S), same(S), all_rule(S), bar(THREE_LENGTHS)):
            self.assertIsNone(pours([], wish))
            self.assertIsNone(pours((), wish))

    def test_number_0(self):
        self.assertIsNone(pours([all_rule(S)] * 3, all_rule(S)))
        self.assertIsNone(pours([beside([], five(SIXTEEN))], gives(five(SIXTEEN), all_rule(SIXTEEN))))

    def test_new_lists(self):
        rules = [same(O, "o"), same(O, "o")]
        pours(rules, rules[0]).clear()
        self.assertEqual(len(pours(rules, rules[0])), 2)

    def test_errors_in_order(self):
        self.fails(TooMany, ("rules", 4), pours, [all_rule(BACK)] * 4, five(S))
        self.fails(UnlikeParts, ("s:01", "s:10"), pours, [all_rule(S), all_rule(BACK), all_rule(O)], five(S))
        self.fails(UnlikeParts, ("s:01", "s:10"), pours, [all_rule(BACK)], all_rule(S))
        self.fails(TooMany, ("tapes", 5), pours, [beside([], five(S) | none_rule(S))], five(S))
        self.fails(TooMany, ("tapes", 6), pours, [all_rule(S), beside([], five(S) | none_rule(S))], same(S))
        # also without rules
        self.fails(TooMany, ("tapes", 5), pours, [], five(S))
        self.fails(TooMany, ("columns", 17 ** 3 - 1), pours, [], same(SIXTEEN) | none_rule(SIXTEEN))


class PoursNotTest(LotsCase):
    def test_against_the_table(self):
        for seed in range(60):
            letters = (ONE, S, IO)[seed % 3]
            wish = some_rule(letters, seed, deep=1)
            rules = [some_rule(letters, seed + 400 * at, deep=1) for at in range(1, seed % 3 + 1)]
            for row in rows(letters, 2, 1):
                for colours in itertools.product(range(len(rules) + 1), repeat=2):
                    wanted = max(colours) < len(rules) and shows(rules, wish, row, colours)
                    self.assertIs(pours_not(rules, wish, list(zip(row, colours))), wanted)

    def test_colours_that_are_no_index(self):
        rules = [same(O, "o")]
        self.assertFalse(pours_not(rules, same(O, "o"), [((), 0), (("0",), 1)]))
        self.assertFalse(pours_not(rules, same(O, "o"), [((), -1), (("0",), 0)]))
        self.assertFalse(pours_not([], none_rule(O), [((), 0)]))
        self.assertTrue(pours_not(rules * 2, same(O, "o"), [((), 1), (("0",), 0)]))

    def test_any_number_of_rules_and_pairs(self):
        rules = [none_rule(S)] * 8 + [all_rule(S)]
        self.assertTrue(pours_not(rules, none_rule(S), [((), 8), (("0",), 8)] * 4))
        self.assertTrue(pours_not(tuple(rules), none_rule(S), tuple([(("0",) * many, 8) for many in range(10)])))
        self.assertFalse(pours_not(rules, none_rule(S), [((), 8), (("0",), 7)]))
        self.assertFalse(pours_not(rules, none_rule(S), []))
        self.assertFalse(pours_not([], all_rule(S), []))
        # one run may have several colours
        self.assertTrue(pours_not([none_rule(S) | few(0, all_rule(S)), all_rule(S)], none_rule(S), [((), 1), ((), 0)]))

    def test_errors_in_order(self):
        many = [(("0",) * length, 0) for length in range(10)]
        two, three = (beside([("0",) * length for length in range(size)], all_rule(S)) for size in (2, 3))
        self.fails(UnlikeParts, ("s:01", "s:10"), pours_not, [two, all_rule(BACK), all_rule(O)], two, [(("2",), 9)])
        self.fails(BadRun, (10,), pours_not, [two], two, many + [(("2",), 9), (("x",), 0)])
        self.fails(TooMany, ("runs", 12), pours_not, [three], two, many)
        self.fails(TooMany, ("runs", 12), pours_not, [all_rule(S), two], two, many + many[:2])
        self.fails(TooMany, ("runs", 12), pours_not, [two, three], all_rule(S), many)
        self.fails(TooMany, ("runs", 11), pours_not, [two, three], all_rule(S),
                   many[:2] + [(run, 1) for run, _ in many[2:]])
        # the told runs of a rule count with those of its own colour only, and colours are looked at last
        self.assertTrue(pours_not([all_rule(S), two], none_rule(S), many))
        self.assertFalse(pours_not([three], none_rule(S), [(run, 3) for run, _ in many]))
        self.fails(TooMany, ("runs", 11), pours_not, [three], none_rule(S), many[:8] + [((), -1)])


if __name__ == "__main__":
    unittest.main()
