import itertools
import random
import unittest

from fewbreak.besides import beside
from fewbreak.errors import BadNumber, TooMany, UnlikeParts
from fewbreak.follows import follows
from fewbreak.letters import Letters, read_letters
from fewbreak.rules import all_rule, both, few, gives, none_rule, same
from fewbreak.vectors import enough, vectors
from plain import IO, LONGEST, ONE, S, SIXTEEN, LotsCase, THREE, against, five, keeps, rows, some_rule, zero

ABC = read_letters("a:01 b:01 c:01")
BACK = Letters(("s", "10"))
STOCK = [same(ABC, name) for name in "abc"]
WISH = both(ABC, same(ABC, "a"), same(ABC, "b"))


def drawn(seed, most=4):
    """A stock, a wish and known rules."""
    source = random.Random(seed)
    letters = (ONE, S, S, THREE, IO)[seed % 5]
    wish = some_rule(letters, seed, deep=1, most=2 if len(letters) > 2 else 3)
    stock = [some_rule(letters, seed + 500 * at, deep=source.randint(0, 1)) for at in range(1, seed % (most + 1) + 1)]
    if seed % 3 == 0 and stock:
        stock[source.randrange(len(stock))] = wish
    known = [some_rule(letters, seed + 4000 + at, deep=1) for at in range(source.randint(0, 2))]
    return stock, wish, known


def groups(many):
    """All ascending tuples of indexes, fewer items first, then ascending."""
    return [group for size in range(many + 1) for group in itertools.combinations(range(many), size)]


def least_groups(stock, wish, known):
    """The least vectors with their lots, by asking for each set of rules of the stock whether the others follow."""
    found = []
    for group in groups(len(stock)):
        lot = follows(known + [rule for at, rule in enumerate(stock) if at not in group], wish)
        if lot is not None and not any(set(other) <= set(group) for other, _ in found):
            found.append((group, lot))
    return found


class VectorsTest(LotsCase):
    def test_against_all_parts_of_stocks(self):
        sizes = set()
        for seed in range(200):
            stock, wish, known = drawn(seed)
            found = vectors(stock, wish, known_rules=known)
            self.assertEqual(found, least_groups(stock, wish, known))
            sizes |= {len(vector) for vector, _ in found}
            for vector, lot in found:
                rest = [rule for at, rule in enumerate(stock) if at not in vector]
                self.assertTrue(against(known + rest, wish)(lot))
                self.assertFalse(any(keeps(stock[at], lot) for at in vector))
                self.is_first(lot, wish.letters, against(known + rest, wish), wish.number)
                self.assertEqual((type(vector), type(lot)), (tuple, list))
        self.assertGreater(len(sizes), 3)

    def test_against_short_lots(self):
        """Whatever rules a short lot breaks, some least vector is among them."""
        for seed in range(60):
            stock, wish, known = drawn(seed)
            found = [set(vector) for vector, _ in vectors(stock, wish, known_rules=known)]
            for row in rows(wish.letters, 2, min(2, LONGEST[len(wish.letters)])):
                if not keeps(wish, row) and all(keeps(rule, row) for rule in known):
                    broken = {at for at, rule in enumerate(stock) if not keeps(rule, row)}
                    self.assertTrue(any(vector <= broken for vector in found))

    def test_examples(self):
        self.assertEqual(vectors(STOCK, WISH), [((0,), [("000",), ("100",)]), ((1,), [("000",), ("010",)])])
        known = [gives(same(ABC, "a"), same(ABC, "b"))]
        self.assertEqual([vector for vector, _ in vectors(STOCK, WISH, known_rules=known)], [(0,)])
        self.assertEqual(vectors(tuple(STOCK[::-1]), WISH, known_rules=tuple(known)), [((2,), [("000",), ("100",)])])

    def test_empty_vector(self):
        self.assertEqual(vectors([], none_rule(S)), [((), [()])])
        self.assertEqual(vectors([same(S)], none_rule(S)), [((), [()])])
        self.assertEqual(vectors([all_rule(S)] * 8, same(S, "s")), [((), [(), ("0",)])])

    def test_wishes_that_follow(self):
        self.assertEqual(vectors([], all_rule(S)), [])
        self.assertEqual(vectors([same(S)], gives(none_rule(S), same(S))), [])
        self.assertEqual(vectors([same(S)], same(S), known_rules=[same(S, "s")]), [])
        self.assertEqual(vectors([five(SIXTEEN)], zero(SIXTEEN)), [])

    def test_eight_rules(self):
        # each rule alone is enough, so a lot against the wish breaks all of them
        wish = same(S, "s")
        stock = [wish, few(2, wish), few(3, wish), both(S, wish), wish & same(S), gives(all_rule(S), wish),
                 few(9, wish), both(S, wish, wish)]
        self.assertEqual(vectors(stock, wish), [(tuple(range(8)), [(), ("0",)])])
        # two runs differ at some of the parts, so each is a vector of its own
        stock = [same(SIXTEEN, name) for name in "abcd"] * 2
        found = vectors(stock, same(SIXTEEN, "a", "b", "c", "d"))
        self.assertEqual([vector for vector, _ in found], [(at, at + 4) for at in range(4)])
        self.assertEqual(found[3][1], [("0000",), ("0001",)])

    def test_errors_in_order(self):
        for many in (9, 12):
            self.fails(TooMany, ("rules", many), vectors, [all_rule(BACK)] * many, five(S), known_rules=[all_rule(IO)])
        self.fails(UnlikeParts, ("s:01", "s:10"), vectors, [all_rule(IO)] * 8, five(S),
                   known_rules=[all_rule(S), all_rule(BACK)])
        self.fails(UnlikeParts, ("s:01", "in:01 out:01"), vectors, [all_rule(S), all_rule(IO), all_rule(BACK)], five(S))
        self.fails(UnlikeParts, ("s:01", "s:10"), vectors, [all_rule(BACK)], all_rule(S))
        six = beside([], five(S) | none_rule(S))
        self.fails(TooMany, ("tapes", 5), vectors, [six], five(S), known_rules=[six])
        self.fails(TooMany, ("tapes", 5), vectors, [six], same(S), known_rules=[beside([], five(S))])
        self.fails(TooMany, ("tapes", 6), vectors, [six, beside([], five(S))], same(S), known_rules=[same(S)])
        self.fails(TooMany, ("columns", 17 ** 3 - 1), vectors, [], same(SIXTEEN) | none_rule(SIXTEEN))

    def test_new_lists(self):
        found = vectors(STOCK, WISH)
        found[0][1].clear()
        found.clear()
        self.assertEqual(len(vectors(wish=WISH, stock=STOCK)[0][1]), 2)
        self.assertEqual(len(STOCK), 3)


class EnoughTest(LotsCase):
    def test_against_follows(self):
        for seed in range(80):
            stock, wish, known = drawn(seed, most=3)
            for group in groups(len(stock)):
                wanted = follows(known + [stock[at] for at in group], wish)
                self.assertEqual(enough(stock, group, wish, known_rules=known), wanted)
                self.assertEqual(enough(tuple(stock), group[::-1] + group, wish, known_rules=tuple(known)), wanted)

    def test_an_item_of_each_vector(self):
        for seed in range(60):
            stock, wish, known = drawn(seed)
            found = [vector for vector, _ in vectors(stock, wish, known_rules=known)]
            for group in groups(len(stock)):
                self.assertIs(enough(stock, group, wish, known_rules=known) is None,
                              all(set(vector) & set(group) for vector in found))

    def test_small(self):
        self.assertIsNone(enough(STOCK, (1, 0, 1), WISH))
        self.assertEqual(enough(STOCK, (2, 0, 2), WISH), [("000",), ("010",)])
        self.assertEqual(enough(STOCK, (), WISH), [(), ("000",)])
        self.assertIsNone(enough(picked=(0,), stock=STOCK, wish=WISH, known_rules=[gives(same(ABC, "a"), same(ABC, "b"))]))
        self.assertEqual(enough([], (), none_rule(S)), [()])
        self.assertIsNone(enough([], (), all_rule(S)))
        self.assertIsNone(enough([none_rule(S)] * 8, (7,), none_rule(S)))

    def test_errors_in_order(self):
        self.fails(TooMany, ("rules", 9), enough, [all_rule(BACK)] * 9, (9,), five(S))
        self.fails(BadNumber, (8,), enough, [all_rule(BACK)] * 8, (7, 8, -1), five(S))
        self.fails(BadNumber, (-1,), enough, [all_rule(BACK)] * 2, (0, -1, 2), five(S))
        self.fails(BadNumber, (0,), enough, [], (0,), five(S))
        self.fails(UnlikeParts, ("s:01", "in:01 out:01"), enough, [all_rule(BACK)], (), five(S),
                   known_rules=[all_rule(IO)])
        # rules that are not chosen count for the errors
        self.fails(UnlikeParts, ("s:01", "s:10"), enough, [all_rule(S), all_rule(BACK)], (0,), five(S))
        self.fails(TooMany, ("tapes", 5), enough, [all_rule(S), beside([], five(S))], (0,), same(S))
        self.fails(TooMany, ("tapes", 5), enough, [beside([], five(S) | none_rule(S))], (0,), five(S))

    def test_new_lists(self):
        enough(STOCK, (2,), WISH).clear()
        self.assertEqual(len(enough(STOCK, (2,), WISH)), 2)


if __name__ == "__main__":
    unittest.main()
