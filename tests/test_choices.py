import itertools
import random
import unittest

from fewbreak.besides import beside
from fewbreak.choices import cheapest, choices
from fewbreak.errors import BadTable, NotEnough, TooMany, UnlikeParts
from fewbreak.rules import all_rule, both, either, few, gives, none_rule, same
from fewbreak.vectors import enough
from plain import IO, S, SIXTEEN, Case, five, zero
from test_vectors import ABC, BACK, STOCK, WISH, drawn, groups


def enough_groups(stock, wish, known):
    return [group for group in groups(len(stock)) if enough(stock, group, wish, known_rules=known) is None]


class ChoicesTest(Case):
    def test_against_all_parts_of_stocks(self):
        found = [0, 0]
        for seed in range(200):
            stock, wish, known = drawn(seed)
            good = enough_groups(stock, wish, known)
            found[bool(good)] += 1
            if not good:
                lot = enough(stock, tuple(range(len(stock))), wish, known_rules=known)
                self.fails(NotEnough, (lot,), list, choices(stock, wish, known_rules=known))
                continue
            wanted = [group for group in good if not any(set(other) < set(group) for other in good)]
            self.assertEqual(list(choices(stock, wish, known_rules=known)), wanted)
        self.assertGreater(min(found), 40)

    def test_examples(self):
        self.assertEqual(list(choices(STOCK, WISH)), [(0, 1)])
        self.assertEqual(list(choices(STOCK, WISH, known_rules=[gives(same(ABC, "a"), same(ABC, "b"))])), [(0,)])

    def test_order(self):
        # fewer items first, then ascending
        stock = [same(ABC, "a"), same(ABC, "b"), same(ABC, "c"), same(ABC, "a", "b"), same(ABC, "b", "c"),
                 same(ABC, "a", "b", "c")]
        self.assertEqual(list(choices(tuple(stock), same(ABC, "a", "b", "c"), known_rules=())),
                         [(5,), (0, 4), (2, 3), (3, 4), (0, 1, 2)])

    def test_empty_stock(self):
        self.assertEqual(list(choices([], all_rule(S))), [()])
        self.assertEqual(list(choices([], same(S), known_rules=[same(S, "s")])), [()])
        self.fails(NotEnough, ([()],), list, choices([], none_rule(S)))
        self.assertEqual(list(choices([five(SIXTEEN)] * 8, zero(SIXTEEN))), [()])

    def test_eight_rules(self):
        wish = same(S, "s")
        self.assertEqual(list(choices([wish] * 8, wish)), [(at,) for at in range(8)])
        stock = [same(SIXTEEN, name) for name in "abcd"] * 2
        found = list(choices(stock, same(SIXTEEN, "a", "b", "c", "d")))
        self.assertEqual(found, sorted(tuple(sorted(one)) for one in itertools.product((0, 4), (1, 5), (2, 6), (3, 7))))

    def test_errors_come_with_the_first_item(self):
        for error, values, stock, wish, known in (
                (TooMany, ("rules", 9), [all_rule(BACK)] * 9, five(S), []),
                (UnlikeParts, ("s:01", "s:10"), [all_rule(IO)], five(S), [all_rule(BACK)]),
                (TooMany, ("tapes", 5), [all_rule(S)], five(S), []),
                (TooMany, ("tapes", 5), [beside([], five(S))], none_rule(S), []),
                (NotEnough, ([(), ("0",)],), [all_rule(S)], same(S), [all_rule(S)])):
            made = choices(stock, wish, known_rules=known)
            self.fails(error, values, next, made)

    def test_by_name(self):
        self.assertEqual(list(choices(wish=WISH, stock=STOCK)), [(0, 1)])


class CheapestTest(Case):
    def test_against_all_choices(self):
        many = 0
        for seed in range(200):
            stock, wish, known = drawn(seed)
            source = random.Random(seed)
            prices = [source.randint(1, 3) for _ in stock]
            good = enough_groups(stock, wish, known)
            for given, unit_prices in ((prices, prices), ([1] * len(stock), None), (prices, tuple(prices))):
                if not good:
                    lot = enough(stock, tuple(range(len(stock))), wish, known_rules=known)
                    self.fails(NotEnough, (lot,), cheapest, stock, wish, known_rules=known, unit_prices=unit_prices)
                    continue
                wanted = min(good, key=lambda group: (sum(given[at] for at in group), len(group), group))
                self.assertEqual(cheapest(stock, wish, known_rules=known, unit_prices=unit_prices), wanted)
                many += 1
        self.assertGreater(many, 200)

    def test_ties(self):
        stock = [same(ABC, "a"), same(ABC, "b"), same(ABC, "c"), same(ABC, "a", "b"), same(ABC, "b", "c"),
                 same(ABC, "a", "b", "c")]
        wish = same(ABC, "a", "b", "c")
        self.assertEqual(cheapest(stock, wish), (5,))
        self.assertEqual(cheapest(stock, wish, unit_prices=[1, 1, 1, 1, 1, 2]), (5,))
        self.assertEqual(cheapest(stock, wish, unit_prices=[1, 1, 1, 1, 1, 3]), (0, 4))
        self.assertEqual(cheapest(stock, wish, unit_prices=[1, 1, 1, 2, 2, 3]), (5,))
        self.assertEqual(cheapest(stock, wish, unit_prices=[1, 1, 1, 2, 2, 4]), (0, 4))
        self.assertEqual(cheapest(stock, wish, unit_prices=[1, 1, 1, 3, 3, 4]), (0, 1, 2))
        self.assertEqual(cheapest(stock, wish, unit_prices=[2, 1, 1, 1, 2, 9]), (2, 3))
        self.assertEqual(cheapest(stock, wish, unit_prices=[10 ** 8] * 6), (5,))

    def test_errors_in_order(self):
        stock = [all_rule(S), all_rule(S)]
        self.fails(TooMany, ("rules", 9), cheapest, [all_rule(BACK)] * 9, five(S), unit_prices=[])
        self.fails(UnlikeParts, ("s:01", "s:10"), cheapest, stock, five(S), known_rules=[all_rule(BACK)], unit_prices=[0])
        self.fails(TooMany, ("tapes", 5), cheapest, stock, five(S), unit_prices=[0])
        for prices in ([], [0], [1, 0, 1], (1,)):
            self.fails(BadTable, (-1,), cheapest, stock, same(S), unit_prices=prices)
        self.fails(BadTable, (-1,), cheapest, [], same(S), unit_prices=[1])
        self.fails(BadTable, (0,), cheapest, stock, same(S), unit_prices=[0, -1])
        self.fails(BadTable, (1,), cheapest, stock, same(S), unit_prices=[1, -5])
        self.fails(NotEnough, ([(), ("0",)],), cheapest, stock, same(S), unit_prices=[1, 1])
        self.fails(NotEnough, ([(), ("0",)],), cheapest, [], same(S), unit_prices=[])
        self.fails(BadTable, (0,), cheapest, stock, all_rule(S), unit_prices=[0, 1])

    def test_empty_choice(self):
        self.assertEqual(cheapest([], all_rule(S)), ())
        self.assertEqual(cheapest([none_rule(S)], same(S), known_rules=[few(2, same(S))], unit_prices=[3]), ())

    def test_arguments(self):
        stock, prices = [either(same(S), none_rule(S)), both(S, none_rule(S))], [3, 2]
        self.assertEqual(cheapest(unit_prices=prices, known_rules=[], wish=same(S), stock=stock), (1,))
        self.assertEqual((len(stock), prices), (2, [3, 2]))


if __name__ == "__main__":
    unittest.main()
