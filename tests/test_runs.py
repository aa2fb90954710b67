import random
import unittest

from fewbreak.errors import BadRun, BadText
from fewbreak.letters import Letters
from fewbreak.runs import is_run, lot_text, read_lot, read_run, run_key, run_text, told_lot
from plain import Case, IO, S, runs

BACK = Letters(("s", "10"))


class RunTest(Case):
    def test_is_run(self):
        for run in ((), ("00",), ("00", "11"), ("01",) * 40):
            self.assertIs(is_run(IO, run), True)
        for run in (("0",), ("00", "2"), ("00", ""), ("",), ("00", "#"), ("#",), ("00.01",), ("-",)):
            self.assertIs(is_run(IO, run), False)

    def test_text(self):
        self.assertEqual(run_text(()), "-")
        self.assertEqual(run_text(("00",)), "00")
        self.assertEqual(run_text(("00", "01")), "00.01")

    def test_read(self):
        self.assertEqual(read_run(IO, "-"), ())
        self.assertEqual(read_run(IO, "00.01"), ("00", "01"))
        for run in runs(IO, 3):
            self.assertEqual(read_run(IO, run_text(run)), run)

    def test_read_errors(self):
        for text in ("", ".", "00.", ".00", "00..01", "--", "-.00", "00.-", "0", "000", "00 01", " 00", "00 ", "00\n",
                     "02", "#"):
            self.fails(BadText, (0, "form"), read_run, IO, text)

    def test_key(self):
        self.assertEqual(run_key(IO, ()), (0, ()))
        self.assertEqual(run_key(IO, ("00", "11", "10")), (3, (0, 3, 2)))
        self.assertEqual(run_key(BACK, ("1", "0")), (2, (0, 1)))
        for letters in (IO, BACK):
            self.assertEqual(sorted(runs(letters, 3), key=lambda run: run_key(letters, run)), runs(letters, 3))

    def test_key_errors(self):
        for run in (("0",), ("00", "x"), ("",)):
            self.fails(BadRun, (0,), run_key, IO, run)


class LotTest(Case):
    def test_told_lot(self):
        lot = runs(S, 3)
        for seed in range(20):
            source = random.Random(seed)
            some = [source.choice(lot) for _ in range(12)]
            self.assertEqual(told_lot(S, some), [run for run in lot if run in some])
        self.assertEqual(told_lot(BACK, [("0",), ("1",), (), ("0",)]), [(), ("1",), ("0",)])
        self.assertEqual(told_lot(S, ()), [])
        self.assertEqual(told_lot(S, ((), ())), [()])

    def test_told_lot_is_new(self):
        lot = [(), ("0",)]
        told = told_lot(S, lot)
        told.append(("1",))
        self.assertEqual(lot, [(), ("0",)])
        lot.clear()
        self.assertEqual(told, [(), ("0",), ("1",)])

    def test_errors(self):
        for call in (told_lot, lot_text):
            self.fails(BadRun, (1,), call, S, [("1",), ("2",), ("0",), ("",)])
            self.fails(BadRun, (0,), call, S, [("0", "x"), ("2",)])
            self.fails(BadRun, (3,), call, S, [("1",), ("1",), (), ("00",)])

    def test_lot_text(self):
        self.assertEqual(lot_text(S, []), "")
        self.assertEqual(lot_text(S, [()]), "-")
        self.assertEqual(lot_text(S, [("1", "0"), (), ("1",), ("0",), ("1",)]), "- 0 1 1.0")

    def test_read_lot(self):
        self.assertEqual(read_lot(S, ""), [])
        self.assertEqual(read_lot(S, "-"), [()])
        self.assertEqual(read_lot(S, "1.0 1 - 0 1"), [(), ("0",), ("1",), ("1", "0")])
        lot = runs(IO, 2)
        self.assertEqual(read_lot(IO, lot_text(IO, lot)), lot)

    def test_read_lot_errors(self):
        for text in (" ", "0  1", " 0", "0 ", "0 2", "0,1", "0 1.", "0\n", "\n", "0 --"):
            self.fails(BadText, (0, "form"), read_lot, S, text)


if __name__ == "__main__":
    unittest.main()
