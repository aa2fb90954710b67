import unittest

from fewbreak.besides import beside
from fewbreak.errors import BadRun, BreaksBeside, TooMany
from fewbreak.rules import all_rule, both, gives, none_rule, same
from fewbreak.runs import read_lot
from plain import Case, IO, S

ALL = all_rule(S)
LEADS = gives(same(IO, "in"), same(IO, "out"))


def lengths(many):
    """So many runs, the longest one first."""
    return [("0",) * length for length in range(many)][::-1]


class BesideTest(Case):
    def test_rule(self):
        rule = beside([("1", "0"), (), ("1",), ()], ALL)
        self.assertEqual(rule.lot, ((), ("1",), ("1", "0")))
        self.assertEqual((rule.kind, rule.letters, rule.rules, rule.number), ("beside", S, (ALL,), 0))
        self.assertEqual(str(rule), "beside(- 1 1.0,all)")
        self.assertEqual(beside((), ALL).lot, ())

    def test_told_runs_count_once(self):
        self.assertEqual(beside(lengths(10) * 3, ALL).told_runs, 10)

    def test_breaks(self):
        self.fails(BreaksBeside, ([("0",)],), beside, [("0", "0"), ("0",)], none_rule(S))
        found = read_lot(IO, "00 01")
        self.fails(BreaksBeside, (found,), beside, read_lot(IO, "01 10 00 11 11.00"), LEADS)
        with self.assertRaises(BreaksBeside) as caught:
            beside(tuple(found), LEADS)
        self.assertIs(type(caught.exception.lot), list)
        self.assertEqual(beside(read_lot(IO, "00 10 01.00"), LEADS).number, 2)

    def test_breaks_beside_further_told_runs(self):
        inner = beside([("0",)], same(S))
        self.fails(BreaksBeside, ([()],), beside, [("1",), ()], inner)
        self.assertEqual(beside([("1",)], inner).told_runs, 2)

    def test_errors_in_order(self):
        forms = both(S, *[none_rule(S)] * 39)
        told = beside([(), ("1",)], ALL)
        self.fails(BadRun, (2,), beside, lengths(2) + [("2",), ("",)] + lengths(12), forms)
        self.fails(TooMany, ("forms", 41), beside, lengths(12), forms)
        self.fails(TooMany, ("runs", 12), beside, lengths(12), none_rule(S))
        self.fails(TooMany, ("runs", 11), beside, lengths(9), told & none_rule(S))
        self.fails(BreaksBeside, ([()],), beside, lengths(8), told & none_rule(S))
        self.fails(BreaksBeside, ([()],), beside, lengths(10), none_rule(S))
        self.assertEqual(beside(lengths(8), told).told_runs, 10)


if __name__ == "__main__":
    unittest.main()
