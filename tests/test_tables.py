import random
import unittest

from fewbreak.besides import beside
from fewbreak.broken import broken_rows
from fewbreak.errors import NotSo, TooMany, UnlikeParts
from fewbreak.follows import follows
from fewbreak.letters import Letters
from fewbreak.rules import all_rule, both, each, either, gives, led, none_rule, same
from fewbreak.tables import table, table_fault
from plain import Case, IO, ONE, S, SIXTEEN, THREE, columns_plain, some_machine, some_rule

BACK = Letters(("s", "10"))
LEADS = gives(same(IO, "in"), same(IO, "out"))


def five(letters):
    return either(same(letters), same(letters), none_rule(letters))


def walked(rules, wish):
    """The table, found by going through all columns, filled or not."""
    machines = [broken_rows(rule, wish.number) for rule in rules + [wish]]
    columns = columns_plain(wish.letters, wish.number)
    found = {(0,) * len(machines)}
    waiting = list(found)
    while waiting:
        key = waiting.pop()
        for column in columns:
            after = tuple(machine.next_of(standing, column) for machine, standing in zip(machines, key))
            if after not in found:
                found.add(after)
                waiting.append(after)
    return sorted(found)


class TableTest(Case):
    def test_against_a_walk(self):
        many = 0
        for seed in range(150):
            letters = (ONE, S, S, THREE, IO)[seed % 5]
            wish = some_rule(letters, seed, deep=1, most=2)
            rules = [some_rule(letters, seed + 1000, deep=1), both(letters, wish, all_rule(letters))][seed % 2:]
            if follows(rules, wish) is None and wish.number > 0:
                many += 1
                found = table(rules, wish)
                self.assertEqual(found, walked(rules, wish))
                self.assertTrue(all(type(row) is tuple for row in found))
                self.assertIsNone(table_fault(rules, wish, found))
        self.assertGreater(many, 60)

    def test_lists_that_are_not_filled(self):
        # only such lists lead the machine of same, which has ended, to its last standing
        found = table([same(S, "s")], same(S, "s"))
        self.assertEqual(found, [(standing, standing) for standing in range(5)])

    def test_number_0(self):
        self.assertEqual(table([], all_rule(S)), [])
        self.assertEqual(table([same(S)], few_of_none(S)), [])
        self.assertEqual(table([], beside([], gives(five(SIXTEEN), all_rule(SIXTEEN)))), [])

    def test_no_rules(self):
        wish = gives(none_rule(S), same(S))
        self.assertEqual(table([], wish), [(0,)])
        self.assertEqual(table((), wish), walked([], wish))

    def test_errors_in_order(self):
        self.fails(NotSo, ([("00",), ("01", "00")],), table, [LEADS], led(IO, ["in"], ["out"]))
        self.fails(NotSo, ([()],), table, [], none_rule(S))
        for call, more in ((table, ()), (table_fault, ([(9, 9, 9)],))):
            self.fails(UnlikeParts, ("s:01", "s:10"), call, [five(S), none_rule(BACK), all_rule(IO)], five(S), *more)
            self.fails(TooMany, ("tapes", 5), call, [beside([], five(SIXTEEN) | none_rule(SIXTEEN))], five(SIXTEEN), *more)
            self.fails(TooMany, ("columns", 17 ** 3 - 1), call, [], same(SIXTEEN) | none_rule(SIXTEEN), *more)
            self.fails(TooMany, ("tapes", 6), call, [all_rule(S), beside([], five(S) | none_rule(S))], same(S), *more)
            self.fails(UnlikeParts, ("s:01", "s:10"), call, [none_rule(BACK)], all_rule(S), *more)

    def test_new_lists(self):
        rules = [same(S, "s")]
        table(rules, same(S, "s")).clear()
        self.assertEqual(len(table(rules, same(S, "s"))), 5)
        self.assertEqual(len(rules), 1)


class FaultTest(Case):
    rules = [LEADS, same(IO, "in")]
    wish = same(IO, "out")

    def told(self, rows, rules=None, wish=None):
        return table_fault(self.rules if rules is None else rules, self.wish if wish is None else wish, rows)

    def test_right(self):
        rows = table(self.rules, self.wish)
        self.assertIsNone(self.told(rows))
        self.assertIsNone(self.told(rows[::-1] + rows[:3]))
        self.assertIsNone(self.told(tuple(rows)))

    def test_start(self):
        rows = table(self.rules, self.wish)
        self.assertEqual(self.told(rows[1:]), (-1, "start"))
        self.assertEqual(self.told([]), (-1, "start"))
        self.assertEqual(self.told([(0, 0)]), (-1, "start"))
        self.assertEqual(self.told([(-1, 99)]), (-1, "start"))

    def test_shape(self):
        rows = table(self.rules, self.wish)
        last = [broken_rows(rule, 2).standings - 1 for rule in self.rules + [self.wish]]
        for wrong in ((), (0, 0), (0, 0, 0, 0), (-1, 0, 0), (0, 0, -1), (last[0] + 1, 0, 0), (0, last[1] + 1, 0),
                      (0, 0, last[2] + 1), (0, 10 ** 8, 0)):
            self.assertEqual(self.told(rows + [wrong]), (len(rows), "shape"), wrong)
            self.assertEqual(self.told([wrong] + rows), (0, "shape"), wrong)

    def test_ends(self):
        rules, wish = [LEADS], led(IO, ["in"], ["out"])
        self.assertIsNotNone(follows(rules, wish))
        rows = walked(rules, wish)
        at, why = self.told(rows, rules, wish)
        self.assertEqual(why, "ends")
        for early, row in enumerate(rows[:at + 1]):
            one, other = broken_rows(rules[0], 2).is_end(row[0]), broken_rows(wish, 2).is_end(row[1])
            self.assertIs(other and not one, early == at)
        # an end of any other machine is enough
        self.assertIsNone(self.told(walked([wish, all_rule(IO)], wish), [wish, all_rule(IO)], wish))

    def test_closed(self):
        rows = table(self.rules, self.wish)
        self.assertEqual(self.told([(0, 0, 0)]), (0, "closed"))
        source = random.Random(4)
        for _ in range(30):
            lost = source.randrange(1, len(rows))
            left = rows[:lost] + rows[lost + 1:]
            source.shuffle(left)
            at, why = self.told(left)
            self.assertEqual(why, "closed")
            machines = [broken_rows(rule, 2) for rule in self.rules + [self.wish]]
            for early, row in enumerate(left[:at + 1]):
                nexts = list(zip(*[machine.rows[standing] for machine, standing in zip(machines, row)]))
                self.assertIs(rows[lost] in nexts, early == at)

    def test_first_fault(self):
        rows = table(self.rules, self.wish)
        self.assertEqual(self.told([(0, 0, 0), (0, 0)]), (0, "closed"))
        self.assertEqual(self.told([(0, 0), (0, 0, 0)]), (0, "shape"))
        # ends come ahead of closed at one index
        end = max(standing for standing in range(5) if broken_rows(self.wish, 2).is_end(standing))
        self.assertEqual(self.told([(0, 0, end)] + rows), (0, "ends"))

    def test_a_larger_list_may_be_right(self):
        rules, wish = [none_rule(S), each(some_machine(S, 1, 2, 1))], none_rule(S)
        machines = [broken_rows(rule, 1) for rule in rules + [wish]]
        rows = [(one, two, three) for one in range(machines[0].standings) for two in range(machines[1].standings)
                for three in range(machines[2].standings)]
        self.assertIsNone(table_fault(rules, wish, rows))

    def test_number_0(self):
        self.assertIsNone(self.told([], [same(S)], all_rule(S)))
        self.assertEqual(self.told([(0, 0)], [same(S)], all_rule(S)), (0, "shape"))
        self.assertEqual(self.told([(0,), (1,)], [], all_rule(S)), (0, "shape"))
        self.assertIsNone(self.told((), [beside([], five(SIXTEEN))], all_rule(SIXTEEN)))


def few_of_none(letters):
    """A rule with the number 0 that is not all."""
    return gives(none_rule(letters), all_rule(letters))


if __name__ == "__main__":
    unittest.main()
