import itertools
import types
import unittest

from fewbreak.errors import BadColumn, BadNumber, BadTable, TooMany
from fewbreak.letters import Letters
from fewbreak.sides import (check_tapes, column_at, column_place, columns, columns_of, is_filled, many_columns, row_key,
                            runs_of)
from plain import Case, IO, ONE, S, SIXTEEN, THREE, columns_plain, row_columns, rows

NINE = Letters(("a", "012345678"))
TEN = Letters(("a", "0123456789"))


class ColumnsTest(Case):
    def test_many(self):
        for letters in (ONE, S, IO, SIXTEEN):
            for tapes in range(1, 5):
                self.assertEqual(many_columns(letters, tapes), (len(letters) + 1) ** tapes - 1)

    def test_check_lets(self):
        for letters, tapes in ((ONE, 1), (ONE, 4), (S, 4), (IO, 4), (NINE, 3), (SIXTEEN, 2)):
            self.assertIsNone(check_tapes(letters, tapes))

    def wrong_tapes(self, call):
        self.fails(BadNumber, (0,), call, SIXTEEN, 0)
        self.fails(BadNumber, (-3,), call, S, -3)
        self.fails(TooMany, ("tapes", 5), call, ONE, 5)
        self.fails(TooMany, ("tapes", 5), call, SIXTEEN, 5)
        self.fails(TooMany, ("columns", 17 ** 3 - 1), call, SIXTEEN, 3)
        self.fails(TooMany, ("columns", 17 ** 4 - 1), call, SIXTEEN, 4)
        self.fails(TooMany, ("columns", 11 ** 3 - 1), call, TEN, 3)

    def test_check_errors(self):
        self.wrong_tapes(check_tapes)

    def test_columns(self):
        self.assertEqual(list(columns(S, 2)), [("#", "0"), ("#", "1"), ("0", "#"), ("0", "0"), ("0", "1"), ("1", "#"),
                                               ("1", "0"), ("1", "1")])
        self.assertEqual(list(columns(Letters(("s", "10")), 1)), [("1",), ("0",)])
        for letters, tapes in ((ONE, 1), (ONE, 4), (S, 3), (S, 4), (IO, 2), (SIXTEEN, 2), (NINE, 3)):
            self.assertEqual(list(columns(letters, tapes)), columns_plain(letters, tapes))

    def test_columns_is_a_generator(self):
        self.assertIsInstance(columns(S, 0), types.GeneratorType)
        self.wrong_tapes(lambda letters, tapes: next(columns(letters, tapes)))

    def test_place(self):
        for letters, tapes in ((ONE, 1), (ONE, 4), (S, 3), (IO, 2)):
            for place, column in enumerate(columns_plain(letters, tapes)):
                self.assertEqual(column_place(letters, column), place)
        self.assertEqual(column_place(SIXTEEN, ("1111",) * 4), 17 ** 4 - 2)

    def test_place_errors(self):
        for column in ((), ("#",), ("#", "#"), ("#",) * 4, ("2",), ("0", ""), ("0", "x"), ("00",), ("0",) * 5,
                       ("*",), ("?", "0")):
            self.fails(BadColumn, (column,), column_place, S, column)

    def test_at(self):
        for letters, tapes in ((ONE, 1), (ONE, 4), (S, 3), (IO, 2)):
            for place, column in enumerate(columns_plain(letters, tapes)):
                self.assertEqual(column_at(letters, tapes, place), column)

    def test_at_errors(self):
        for place in (-1, 8, 9, 100000):
            self.fails(BadNumber, (place,), column_at, S, 2, place)
        for place in (-1, 0):
            self.wrong_tapes(lambda letters, tapes: column_at(letters, tapes, place))


class RowsTest(Case):
    def test_columns_of(self):
        self.assertEqual(columns_of([()]), [])
        self.assertEqual(columns_of([(), (), ()]), [])
        self.assertEqual(columns_of([("0", "1"), (), ("1",)]), [("0", "#", "1"), ("1", "#", "#")])
        self.assertEqual(columns_of((("0",),)), [("0",)])
        for tapes in (1, 2, 3):
            for row in rows(S, tapes, 2):
                self.assertEqual(columns_of(row), row_columns(row))
        four = [("0",), (), ("1", "1", "0"), ("0", "0")]
        self.assertEqual(columns_of(four), row_columns(four))

    def test_is_filled(self):
        for tapes in (1, 2, 3):
            length = 3 if tapes < 3 else 2
            filled = [row_columns(row) for row in rows(S, tapes, length)]
            items = list(itertools.product("#01", repeat=tapes))
            for many in range(length + 1):
                for found in itertools.product(items, repeat=many):
                    self.assertIs(is_filled(found), list(found) in filled, found)
        self.assertIs(is_filled([]), True)

    def test_runs_of(self):
        for tapes in (1, 2, 3):
            for row in rows(S, tapes, 2):
                self.assertEqual(runs_of(row_columns(row), tapes), row)
        self.assertEqual(runs_of([], 4), [(), (), (), ()])
        self.assertEqual(runs_of([("0", "#"), ("1", "#")], 2), [("0", "1"), ()])
        self.assertIs(type(runs_of((("0",),), 1)), list)

    def test_runs_of_errors(self):
        self.fails(BadTable, (0,), runs_of, [("#", "#")], 2)
        self.fails(BadTable, (1,), runs_of, [("0", "#"), ("0", "0"), ("#", "#")], 2)
        self.fails(BadTable, (2,), runs_of, [("0", "0"), ("0", "#"), ("#", "#")], 2)
        self.fails(BadTable, (3,), runs_of, [("0", "0"), ("#", "0"), ("#", "1"), ("0", "0")], 2)
        self.fails(BadTable, (2,), runs_of, [("0",), ("1",), ("#",), ("1",)], 1)

    def test_row_key(self):
        for letters, tapes in ((S, 1), (S, 2), (THREE, 2), (S, 3)):
            found = rows(letters, tapes, 2)
            self.assertEqual(sorted(found, key=lambda row: row_key(letters, row)), found)
        self.assertEqual(row_key(S, [()]), (0, ()))
        self.assertEqual(row_key(S, [("1",), ()]), (1, (5,)))
        self.assertEqual(row_key(S, [("1", "0"), ("0",)]), (2, (6, 2)))


if __name__ == "__main__":
    unittest.main()
