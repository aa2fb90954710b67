import random
import unittest

from fewbreak.besides import beside
from fewbreak.errors import BadRun, TooMany, UnlikeParts
from fewbreak.follows import follows, is_against
from fewbreak.letters import Letters
from fewbreak.machinetexts import read_machine
from fewbreak.rules import all_rule, bar, both, each, either, few, gives, led, none_rule, same
from fewbreak.runs import read_lot
from plain import IO, ONE, S, SIXTEEN, LotsCase, THREE, against, runs, some_rule

BACK = Letters(("s", "10"))
FIVE = Letters(("a", "01234"))
TEN = Letters(("a", "0123456789"))


def drawn(letters, seed):
    """Some rules and a wish."""
    source = random.Random(seed)
    wish = some_rule(letters, seed, deep=source.randint(0, 2))
    return [some_rule(letters, seed + 1000 * at, deep=source.randint(0, 2)) for at in range(1, seed % 4)], wish


class FollowsTest(LotsCase):
    def test_against_all_short_lots(self):
        found = [0, 0]
        for seed in range(200):
            letters = (ONE, S, S, THREE, IO)[seed % 5]
            rules, wish = drawn(letters, seed)
            lot = follows(rules, wish)
            self.is_first(lot, letters, against(rules, wish), wish.number)
            found[lot is None] += 1
            if lot is not None and all(rule.told_runs + len(lot) <= 10 for rule in rules + [wish]):
                self.assertIs(is_against(rules, wish, lot), True)
        self.assertGreater(min(found), 40)

    def test_example(self):
        self.assertEqual(follows([], same(IO, "in")), [(), ("00",)])
        self.assertEqual(follows((), same(IO, "in")), [(), ("00",)])

    def test_order_of_lots(self):
        # the shortest longest run comes ahead of fewer runs
        alone = each(read_machine(S, "machine 1\nstanding a end\n? b\nstanding b end\n? c\nstanding c\n? c\n"))
        self.assertEqual(follows([], alone), [("0", "0")])
        self.assertEqual(follows([], alone & same(S, "s")), [(), ("0",)])
        # then fewer runs come ahead of earlier rows
        two = each(read_machine(S, "machine 1\nstanding a end\n0 b\n1 c\nstanding b end\n* b\nstanding c\n* b\n"))
        self.assertEqual(follows([], two & same(S, "s")), [("1",)])
        # then the first row over all orders of the runs, which need not be the order of runs
        ends = read_machine(S, "machine 1\nstanding a\n1 b\n0 a\nstanding b end\n1 b\n0 a\n")
        self.assertEqual(follows([], gives(each(ends), same(S, "s"))), [("0", "1"), ("1",)])

    def test_all_lots_are_few_runs(self):
        rules = [few(1, none_rule(S))]
        self.assertIsNone(follows(rules, none_rule(S)))
        rule = gives(same(IO, "in"), same(IO, "out"))
        self.assertIsNone(follows([rule, same(IO, "in")], same(IO, "out")))
        self.assertIsNone(follows([led(IO, ["in"], ["out"])], rule))
        self.assertEqual(follows([rule], led(IO, ["in"], ["out"])), [("00",), ("01", "00")])

    def test_no_rules(self):
        self.assertIsNone(follows([], all_rule(S)))
        self.assertIsNone(follows([], gives(none_rule(S), same(S))))
        self.assertEqual(follows([], none_rule(S)), [()])

    def test_many_rules(self):
        self.assertIsNone(follows([all_rule(S)] * 30 + [same(S)] * 5, same(S)))

    def test_new_lists(self):
        rules = [all_rule(S)]
        found = follows(rules, same(S))
        found.clear()
        self.assertEqual(follows(rules, same(S)), [(), ("0",)])
        self.assertEqual(rules, [all_rule(S)])

    def test_four_runs(self):
        lengths = read_machine(ONE, "machine 4\nstanding a\n# 0 0 0 b\nstanding b\n# # 0 0 c\nstanding c\n# # # 0 d\n"
                                    "standing d end\n")
        self.assertEqual(follows([few(3, bar(lengths))], bar(lengths)), [(), ("0",), ("0", "0"), ("0", "0", "0")])
        self.assertIsNone(follows([bar(lengths)], few(3, bar(lengths))))


class ErrorsTest(LotsCase):
    def test_unlike_parts(self):
        for call, more in ((follows, ()), (is_against, ([("x",)],))):
            rules = [all_rule(S), all_rule(BACK), all_rule(IO)]
            self.fails(UnlikeParts, ("s:01", "s:10"), call, rules, all_rule(S), *more)
            self.fails(UnlikeParts, ("s:10", "s:01"), call, rules, beside([], five(BACK)), *more)

    def test_rooms(self):
        wish = none_rule(SIXTEEN) & same(SIXTEEN)
        self.fails(TooMany, ("columns", 17 ** 3 - 1), follows, [], wish | none_rule(SIXTEEN))
        self.assertEqual(follows([], wish), [()])
        self.fails(TooMany, ("tapes", 5), follows, [], five(TEN))
        self.fails(TooMany, ("tapes", 5), follows, [all_rule(S), beside([], five(S))], same(S))
        self.fails(TooMany, ("columns", 1295), follows, [beside([], four(FIVE)), beside([], five(FIVE))], same(FIVE))
        # the room of the wish comes ahead of those of the rules
        self.fails(TooMany, ("columns", 1330), follows, [beside([], five(TEN))], same(TEN) | none_rule(TEN))
        self.fails(TooMany, ("tapes", 6), follows, [beside([], five(S))], five(S) | none_rule(S))
        # the numbers of the other rules mean nothing
        self.assertEqual(follows([few(1, five(S))], same(S)), [(), ("0",)])
        self.assertIsNone(follows([five(S) & none_rule(S)], same(S)))

    def test_number_0_looks_at_no_room(self):
        self.assertIsNone(follows([beside([], five(SIXTEEN))], all_rule(SIXTEEN)))
        self.assertIsNone(follows([], beside([], few(0, five(SIXTEEN)))))
        self.fails(UnlikeParts, ("s:01", "s:10"), follows, [all_rule(BACK)], all_rule(S))


class IsAgainstTest(LotsCase):
    def test_against_the_table(self):
        source = random.Random(9)
        for seed in range(100):
            letters = (ONE, S, S, THREE, IO)[seed % 5]
            rules, wish = drawn(letters, seed)
            demand = against(rules, wish)
            for _ in range(5):
                lot = source.sample(runs(letters, 3), source.randint(0, 4))
                if max(rule.told_runs for rule in rules + [wish]) + len(lot) <= 10:
                    self.assertIs(is_against(rules, wish, lot + lot[:1]), demand(lot))

    def test_larger_lots(self):
        self.assertTrue(is_against([led(S, ["s"], ["s"])], same(S), runs(S, 2)))
        self.assertFalse(is_against([same(S)], same(S), runs(S, 2)))
        self.assertFalse(is_against([], all_rule(S), runs(S, 2)))
        self.assertFalse(is_against([], none_rule(S), []))
        self.assertTrue(is_against((), none_rule(S), ((),)))

    def test_errors(self):
        lot = read_lot(S, "- 0 1 0.0 0.1 1.0 1.1 0.0.0 0.0.1")
        two = beside([(), ("0",)], all_rule(S))
        three = beside([(), ("0",), ("1",)], all_rule(S))
        self.fails(BadRun, (9,), is_against, [two], three, lot + [("2",), ("x",)])
        self.fails(TooMany, ("runs", 11), is_against, [all_rule(S), two, three], three, lot + lot)
        self.fails(TooMany, ("runs", 12), is_against, [all_rule(S), three, two], two, lot)
        self.fails(TooMany, ("runs", 12), is_against, [all_rule(S)], three, lot)
        # an error comes even if the answer is plain
        self.fails(TooMany, ("runs", 11), is_against, [none_rule(S)], two, lot)
        self.assertFalse(is_against([none_rule(S)], beside([()], all_rule(S)), lot))


def four(letters):
    """A rule with the number 4."""
    return same(letters) | same(letters)


def five(letters):
    """A rule with the number 5."""
    return either(same(letters), same(letters), none_rule(letters))


if __name__ == "__main__":
    unittest.main()
