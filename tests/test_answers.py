import random
import unittest

from fewbreak.answers import lead, through
from fewbreak.besides import beside
from fewbreak.errors import BadRun, BadTable, TooMany, UnlikeParts
from fewbreak.letters import Letters
from fewbreak.rules import all_rule, gives, none_rule, same
from fewbreak.runs import read_lot
from fewbreak.told import greatest
from plain import IO, ONE, S, THREE, Case, five, in_order, keeps, parts, some_lot, some_rule

BACK = Letters(("s", "10"))
TEN = [("0",) * many for many in range(10)]


class LeadTest(Case):
    def test_against_all_parts(self):
        found = [0, 0]
        for seed in range(400):
            letters = (ONE, S, S, THREE, IO)[seed % 5]
            lot = some_lot(letters, random.Random(seed), 5)
            other = some_rule(letters, seed + 900, deep=seed % 3, most=9, tapes=3)
            one = some_rule(letters, seed, deep=1, most=9) & (other if seed % 2 else all_rule(letters))
            kept = [part for part in parts(in_order(letters, lot)) if keeps(one, part)]
            told = lead(one, other, lot + lot[:1])
            found[told is None] += 1
            self.assertIs(told is not None, all(keeps(other, part) for part in kept))
            if told is not None:
                answers = greatest(other, lot)
                wanted = [min(at for at, answer in enumerate(answers) if set(part) <= set(answer))
                          for part in greatest(one, lot)]
                self.assertEqual(told, wanted)
        self.assertGreater(min(found), 40)

    def test_small(self):
        lot = read_lot(IO, "00 01 10")
        leads = gives(same(IO, "in"), same(IO, "out"))
        self.assertEqual(lead(same(IO, "in", "out"), leads, lot), [0, 1, 0])
        self.assertEqual(lead(same(IO, "in", "out"), same(IO, "in"), lot), [0, 0, 1])
        self.assertIsNone(lead(leads, same(IO, "in"), lot))
        self.assertIsNone(lead(same(IO, "in"), leads, lot))
        self.assertEqual(lead(none_rule(IO), leads, lot), [0])
        self.assertEqual(lead(all_rule(IO), all_rule(IO), lot), [0])
        self.assertEqual(lead(all_rule(IO), none_rule(IO), []), [0])
        self.assertIsNone(lead(all_rule(IO), none_rule(IO), lot))

    def test_errors_in_order(self):
        two, three = (beside([("0",) * length for length in range(size)], all_rule(S)) for size in (2, 3))
        self.fails(UnlikeParts, ("s:01", "s:10"), lead, three, all_rule(BACK), TEN + [("2",)])
        self.fails(BadRun, (10,), lead, three, two, TEN + [("2",), ("x",)])
        self.fails(TooMany, ("runs", 12), lead, two, three, TEN)
        self.fails(TooMany, ("runs", 13), lead, all_rule(S), three, TEN)
        self.fails(TooMany, ("runs", 11), lead, all_rule(S), five(S), TEN + [("1",)])
        self.assertEqual(lead(two, five(S), [()]), lead(all_rule(S), all_rule(S), [()]))

    def test_new_lists_and_names(self):
        lot = [("1",), ("0",), ("1",)]
        lead(all_rule(S), all_rule(S), lot).clear()
        self.assertEqual(lead(lot=lot, other=all_rule(S), one=same(S, "s")), [0, 0])
        self.assertEqual(lot, [("1",), ("0",), ("1",)])


class ThroughTest(Case):
    def test_one_to_six_lists(self):
        source = random.Random(5)
        found = [0, 0]
        for _ in range(400):
            lists = [[source.randrange(4) for _ in range(source.randint(3, 6))] for _ in range(source.randint(1, 6))]
            copies = [list(one) for one in lists]
            wanted = list(lists[0])
            error = None
            for one in lists[1:]:
                wrong = [at for at, item in enumerate(wanted) if item >= len(one)]
                if wrong:
                    error = wrong[0]
                    break
                wanted = [one[item] for item in wanted]
            found[error is None] += 1
            if error is None:
                self.assertEqual(through(*lists), wanted)
                self.assertEqual(through(*map(tuple, lists)), wanted)
            else:
                self.fails(BadTable, (error,), through, *lists)
            self.assertEqual(lists, copies)
        self.assertGreater(min(found), 80)

    def test_small(self):
        self.assertEqual(through([1, 0, 1], [5, 7]), [7, 5, 7])
        self.assertEqual(through([1, 0, 1], [1, 0], [8, 9]), [8, 9, 8])
        self.assertEqual(through([], [], [3]), [])
        self.fails(BadTable, (1,), through, [0, 2, 5], [1, 1])
        self.fails(BadTable, (0,), through, [-1], [1, 1])
        self.fails(BadTable, (0,), through, [0], [])
        # the lead at hand is the one taken through so far
        self.fails(BadTable, (2,), through, [0, 0, 1], [0, 3], [1, 1])
        self.fails(BadTable, (0,), through, [1], [0, 1], [1], [9])

    def test_alone(self):
        first = [3, -1, 3]
        found = through(first)
        self.assertEqual(found, [3, -1, 3])
        found.clear()
        self.assertEqual(first, [3, -1, 3])
        self.assertEqual(through((2, 0)), [2, 0])

    def test_leads(self):
        """Leads through each other show that all parts that keep the first rule keep the last one."""
        for seed in range(100):
            lot = some_lot(S, random.Random(seed), 5)
            rules = [some_rule(S, seed + 300 * at, deep=1, most=9) for at in range(3)]
            low = rules[0] & rules[1] & rules[2]
            middle = rules[1] & rules[2]
            two = through(lead(low, middle, lot), lead(middle, rules[2], lot))
            answers = greatest(rules[2], lot)
            for part, index in zip(greatest(low, lot), two):
                self.assertTrue(set(part) <= set(answers[index]))


if __name__ == "__main__":
    unittest.main()
