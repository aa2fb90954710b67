import itertools
import random
import unittest

from fewbreak.besides import beside
from fewbreak.errors import BadRun, TooMany, UnknownPart, UnlikeParts, UnlikeTapes
from fewbreak.follows import follows
from fewbreak.letters import Letters, read_letters
from fewbreak.looks import look
from fewbreak.rules import Rule, all_rule, both, carried, either, gives, led, none_rule, same
from fewbreak.runs import read_lot
from fewbreak.yokes import check_sides, yoke, yoked_lot
from plain import IO, S, SIXTEEN, LotsCase, against, runs, some_rule

ABC = read_letters("a:01 b:01 c:01")
AB, BC = read_letters("a:01 b:01"), read_letters("b:01 c:01")
A, B, C = (read_letters(name + ":01") for name in "abc")
IN, OUT = read_letters("in:01"), read_letters("out:01")


def five(letters):
    return either(same(letters), same(letters), none_rule(letters))


class CheckSidesTest(LotsCase):
    def test_right_sides(self):
        for sides in ([AB, BC], [ABC], [A, B, C], [BC, A], [read_letters("c:01 b:01 a:01")], (AB, C), [AB, BC, A, ABC],
                      [AB, AB, BC]):
            self.assertIsNone(check_sides(ABC, sides))

    def test_errors_in_order(self):
        odd = read_letters("x:01 a:10 y:01")
        self.fails(TooMany, ("sides", 5), check_sides, ABC, [odd, A, B, C, AB])
        self.fails(UnknownPart, ("x",), check_sides, ABC, [AB, odd, read_letters("a:10")])
        self.fails(UnknownPart, ("y",), check_sides, ABC, [read_letters("a:10 y:01 x:01")])
        self.fails(UnlikeParts, ("a:01", "a:10"), check_sides, ABC, [read_letters("a:10"), odd])
        self.fails(UnlikeParts, ("b:01 a:01", "b:01 a:012"), check_sides, ABC, [AB, read_letters("b:01 a:012"), odd])
        self.fails(UnlikeParts, ("a:01", "a:0"), check_sides, ABC, [read_letters("a:0")])
        self.fails(UnknownPart, ("c",), check_sides, ABC, [AB, A, B])
        self.fails(UnknownPart, ("a",), check_sides, ABC, [B])
        self.fails(UnknownPart, ("a",), check_sides, ABC, [])


class YokeTest(LotsCase):
    def test_example(self):
        rules = [gives(same(AB, "a"), same(AB, "b")), led(BC, ["b"], ["c"])]
        self.assertIsNone(yoke(rules, gives(same(ABC, "a"), same(ABC, "c"))))
        self.assertEqual(yoke(rules, led(ABC, ["a"], ["c"])), [("000",), ("011", "000")])
        self.assertEqual(yoke(tuple(rules[::-1]), led(ABC, ["a"], ["c"])), [("000",), ("011", "000")])

    def test_sides_in_another_order(self):
        back = [read_letters("b:01 a:01"), read_letters("c:01 b:01")]
        rules = [gives(same(back[0], "a"), same(back[0], "b")), led(back[1], ["b"], ["c"])]
        self.assertIsNone(yoke(rules, gives(same(ABC, "a"), same(ABC, "c"))))
        self.assertEqual(yoke(rules[::-1], led(ABC, ["a"], ["c"])), [("000",), ("011", "000")])

    def test_against_all_short_lots(self):
        found = [0, 0]
        for seed in range(80):
            sides = ([IN, OUT], [IO], [OUT, IO], [read_letters("out:01 in:01"), IN])[seed % 4]
            rules = [some_rule(side, seed + 300 * at, deep=1) for at, side in enumerate(sides)]
            wish = some_rule(IO, seed + 700, deep=1)
            lot = yoke(rules, wish)
            looks = [carried(look(IO, side.names), rule) for side, rule in zip(sides, rules)]
            self.assertEqual(lot, follows(looks, wish))
            self.is_first(lot, IO, against(looks, wish), wish.number)
            found[lot is None] += 1
        self.assertGreater(min(found), 15)

    def test_a_broken_yoke_of_lots(self):
        """The looks of the found lot keep the rules of the sides, and their yoke breaks the wish."""
        rules = [gives(same(AB, "a"), same(AB, "b")), led(BC, ["b"], ["c"])]
        lot = yoke(rules, led(ABC, ["a"], ["c"]))
        seen = [look(ABC, side.names).written_lot(lot) for side in (AB, BC)]
        self.assertTrue(set(lot) <= set(yoked_lot(ABC, [AB, BC], seen)))

    def test_rules_of_forty_forms(self):
        large = both(A, *[same(A, "a")] * 39)
        self.assertEqual(large.forms, 40)
        self.assertIsNone(yoke([large, same(BC, "c")], same(ABC, "a", "c")))
        self.assertEqual(yoke([large, same(BC, "c")], same(ABC, "a", "b")), [("000",), ("010",)])

    def test_errors_in_order(self):
        self.fails(TooMany, ("sides", 5), yoke, [five(A)] * 5, five(ABC))
        self.fails(UnknownPart, ("s",), yoke, [five(S), all_rule(A)], five(ABC))
        self.fails(UnlikeParts, ("a:01", "a:10"), yoke, [all_rule(Letters(("a", "10")))], five(ABC))
        self.fails(UnknownPart, ("a",), yoke, [], five(ABC))
        self.fails(UnknownPart, ("c",), yoke, [all_rule(AB)], all_rule(ABC))
        self.fails(TooMany, ("tapes", 5), yoke, [beside([], five(AB) | none_rule(AB)), all_rule(C)], five(ABC))
        self.fails(TooMany, ("tapes", 6), yoke, [all_rule(ABC), beside([], five(AB) | none_rule(AB))], same(ABC))
        wide = [all_rule(read_letters("a:01 b:01")), all_rule(read_letters("c:01 d:01"))]
        self.fails(TooMany, ("columns", 17 ** 3 - 1), yoke, wide, same(SIXTEEN) | none_rule(SIXTEEN))
        # the carried rules are over the letters of the wish, so they have their columns
        four = beside([], same(A) | same(A))
        self.fails(TooMany, ("columns", 9 ** 4 - 1), yoke, [four, all_rule(BC)], same(ABC))
        self.assertIsNone(yoke([four, all_rule(BC)], Rule("few", ABC, rules=(same(ABC),), most=0)))


class YokedLotTest(LotsCase):
    def plainly(self, letters, sides, lots):
        longest = max([len(run) for lot in lots for run in lot], default=0)
        return [run for run in runs(letters, longest)
                if all(look(letters, side.names).written(run) in lot for side, lot in zip(sides, lots))]

    def test_against_all_runs(self):
        source = random.Random(6)
        for letters, choices in ((ABC, [[AB, BC], [A, B, C], [ABC], [read_letters("c:01 a:01"), AB], [BC, A, AB]]),
                                 (IO, [[IN, OUT], [OUT, IN], [IO, IN], [read_letters("out:01 in:01"), OUT, IN]])):
            for sides, _ in itertools.product(choices, range(12)):
                lots = []
                for side in sides:
                    held = runs(side, 2)
                    lots.append(source.sample(held, source.randint(0, len(held))))
                self.assertEqual(yoked_lot(letters, sides, lots), self.plainly(letters, sides, lots))

    def test_small(self):
        self.assertEqual(yoked_lot(ABC, [AB, BC], [read_lot(AB, "00 01 11.00 -"), read_lot(BC, "10 11 - 11.01")]),
                         [(), ("010",), ("011",), ("111", "001")])
        self.assertEqual(yoked_lot(IO, (IN, OUT), ([("0",), ("0", "1"), ("0",)], (("1",),))), [("01",)])
        self.assertEqual(yoked_lot(IO, [IN, OUT], [[], [("0",)]]), [])
        self.assertEqual(yoked_lot(IO, [IN, OUT], [[()], [()]]), [()])
        self.assertEqual(yoked_lot(IO, [IN, OUT], [[("0",)], [("0", "0"), ()]]), [])

    def test_order(self):
        signs = Letters(("a", "10"), ("b", "10"))
        sides = [Letters(("a", "10")), Letters(("b", "10"))]
        self.assertEqual(yoked_lot(signs, sides, [[("0",), ("1",)]] * 2), [("11",), ("10",), ("01",), ("00",)])

    def test_many_runs(self):
        zeros = [tuple(format(number, "08b")) for number in range(256)]
        found = yoked_lot(IO, [IN, OUT], [zeros, zeros[:2]])
        self.assertEqual(len(found), 512)

    def test_new_lists(self):
        lots = [[("1",), ("0",)], [("0",)]]
        yoked_lot(IO, [IN, OUT], lots).clear()
        self.assertEqual(lots, [[("1",), ("0",)], [("0",)]])
        self.assertEqual(len(yoked_lot(IO, [IN, OUT], lots)), 2)

    def test_errors_in_order(self):
        bad = [("2",)]
        self.fails(TooMany, ("sides", 5), yoked_lot, IO, [IN] * 5, [bad])
        self.fails(UnknownPart, ("s",), yoked_lot, IO, [IN, OUT, S], [bad])
        self.fails(UnknownPart, ("out",), yoked_lot, IO, [IN], [bad, bad])
        self.fails(UnknownPart, ("in",), yoked_lot, IO, [], [])
        self.fails(UnlikeTapes, (1, 2), yoked_lot, IO, [IN, OUT], [bad])
        self.fails(UnlikeTapes, (3, 2), yoked_lot, IO, [IN, OUT], [bad, bad, bad])
        self.fails(UnlikeTapes, (0, 2), yoked_lot, IO, [IN, OUT], [])
        self.fails(BadRun, (1,), yoked_lot, IO, [IN, OUT], [[("0",), ("2",), ("x",)], bad])
        self.fails(BadRun, (0,), yoked_lot, IO, [IN, OUT], [[("0",), ()], bad])
        self.fails(BadRun, (0,), yoked_lot, IO, [IN, IO], [[], [("0",)]])


if __name__ == "__main__":
    unittest.main()
