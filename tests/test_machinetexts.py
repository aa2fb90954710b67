import unittest

from fewbreak.combine import any_row
from fewbreak.errors import BadName, BadText, TooMany
from fewbreak.least import is_least
from fewbreak.letters import LOWERCASE, Letters
from fewbreak.machines import Machine
from fewbreak.machinetexts import machine_text, read_machine
from plain import Case, IO, ONE, S, SIXTEEN, columns_plain, some_machine

LAST = "machine 1\nstanding a\n1 b\n0 a\nstanding b end\n1 b\n0 a\n"
LARGE = Letters(("a", "0123456789abcdef"))


def nexts(machine, standing):
    return {column: machine.next_of(standing, column) for column in columns_plain(machine.letters, machine.tapes)}


class ReadTest(Case):
    def test_read(self):
        machine = read_machine(S, LAST)
        self.assertEqual(machine, Machine(S, 1, [[0, 1], [0, 1]], [False, True]))
        self.assertEqual(machine.name, "made")
        self.assertEqual(read_machine(S, LAST, machine_name="last").name, "last")

    def test_name_is_keyword_only(self):
        with self.assertRaises(TypeError):
            read_machine(S, LAST, "last")

    def test_not_made_least(self):
        machine = read_machine(S, "machine 1\nstanding a end\n? b\nstanding b end\n? a\nstanding c\n? c\n")
        self.assertEqual(machine, Machine(S, 1, [[1, 1], [0, 0], [2, 2]], [True, True, False]))

    def test_order_of_standings(self):
        machine = read_machine(S, "machine 1\nstanding z\n? a\nstanding a end\n? z\n")
        self.assertEqual(machine, Machine(S, 1, [[1, 1], [0, 0]], [False, True]))

    def test_patterns(self):
        text = "machine 2\nstanding a\n0? # b\n# * c\n?1 ?0 d\n* 11 e\n* * f\n" + "".join(
            f"standing {name}\n* * a\n" for name in "bcdef")
        machine = read_machine(IO, text)
        for (one, other), after in nexts(machine, 0).items():
            if one in ("00", "01") and other == "#":
                wish = 1
            elif one == "#":
                wish = 2
            elif one in ("01", "11") and other in ("00", "10"):
                wish = 3
            elif other == "11":
                wish = 4
            else:
                wish = 5
            self.assertEqual(after, wish, (one, other))
        self.assertEqual(machine.standings, 6)

    def test_star_fits_all(self):
        machine = read_machine(S, "machine 2\nstanding a\n* # b\n# * b\n* * c\nstanding b\n* * b\nstanding c\n* * c\n")
        for (one, other), after in nexts(machine, 0).items():
            self.assertEqual(after, 1 if "#" in (one, other) else 2)

    def test_first_arrow_counts(self):
        text = "machine 1\nstanding a\n0 a\n? b\n1 c\n* d\nstanding b\n* b\nstanding c\n* c\nstanding d\n* d\n"
        self.assertEqual(read_machine(S, text).rows[0], (0, 1))

    def test_sharp_alone_fits_nothing(self):
        machine = read_machine(S, "machine 1\nstanding a end\n# a\n? a\n")
        self.assertEqual(machine, Machine(S, 1, [[0, 0]], [True]))
        machine = read_machine(S, "machine 2\nstanding a\n# # b\n* * a\nstanding b\n* * b\n")
        self.assertEqual(machine.rows[0], (0,) * 8)

    def test_further_standing(self):
        machine = read_machine(S, "machine 1\nstanding a end\n0 a\nstanding b\n? a\n")
        self.assertEqual(machine, Machine(S, 1, [[0, 2], [0, 0], [2, 2]], [True, False, False]))
        machine = read_machine(S, "machine 1\nstanding a end\n")
        self.assertEqual(machine, Machine(S, 1, [[1, 1], [1, 1]], [True, False]))

    def test_no_further_standing(self):
        self.assertEqual(read_machine(S, "machine 1\nstanding a end\n0 a\n1 a\n").standings, 1)

    def test_many_standings(self):
        names = LOWERCASE[:12]
        text = "machine 1\n" + "".join(f"standing {name} end\n" for name in names)
        self.assertEqual(read_machine(S, text).standings, 13)
        self.fails(BadText, (13, "many"), read_machine, S, text + "standing m\n")
        self.fails(BadText, (13, "many"), read_machine, S, text + "standing a\n* zz\n")
        self.fails(BadText, (13, "form"), read_machine, S, text + "standing m ends\n")
        self.fails(BadText, (13, "form"), read_machine, S, text + "standing m")

    def test_many_arrows(self):
        text = "machine 1\nstanding a\n" + "0 a\n" * 40
        self.assertEqual(read_machine(S, text).rows[0], (0, 1))
        self.assertEqual(read_machine(S, text + "standing b\n" + "0 a\n" * 40).standings, 3)
        self.fails(BadText, (42, "many"), read_machine, S, text + "1 a\n")
        self.fails(BadText, (42, "many"), read_machine, S, text + "1 zz\nx\n")
        self.fails(BadText, (42, "form"), read_machine, S, text + "2 a\n")
        self.fails(BadText, (83, "many"), read_machine, S, text + "standing b\n" + "0 a\n" * 41)

    def test_many_columns(self):
        self.fails(BadText, (0, "many"), read_machine, LARGE, "machine 3\nx\n")
        self.fails(BadText, (0, "many"), read_machine, SIXTEEN, "machine 4\n")
        self.fails(BadText, (0, "form"), read_machine, LARGE, "machine 3")
        self.fails(BadText, (0, "form"), read_machine, LARGE, "machine 5\n")
        nine = Letters(("a", "012345678"))
        self.assertEqual(read_machine(nine, "machine 3\nstanding a end\n* * * a\n").rows, ((0,) * 999,))
        ten = Letters(("a", "0123456789"))
        self.fails(BadText, (0, "many"), read_machine, ten, "machine 3\nstanding a end\n* * * a\n")

    def test_head(self):
        for head in ("", "machine", "machine 0", "machine 5", "machine 01", "machine 1 ", " machine 1", "machine  1",
                     "machine -1", "machine x", "machine 1 a", "Machine 1", "program", "standing a", "machine 1\t"):
            self.fails(BadText, (0, "form"), read_machine, S, head + "\nstanding a\n")
            self.fails(BadText, (0, "form"), read_machine, S, head + "\n")
        self.fails(BadText, (0, "form"), read_machine, S, "machine 1")
        self.fails(BadText, (0, "form"), read_machine, S, "\n")
        self.fails(BadText, (0, "form"), read_machine, S, " ")

    def test_second_line(self):
        for line in ("0 a", "* a", "", "a", "standing", "standing A", "standing abcdefg", "standing a end end",
                     "standing a  end", "standing  a", " standing a", "standing a ", "standing a x", "standing a END",
                     "machine 1", "standing a1", "stand a"):
            self.fails(BadText, (1, "form"), read_machine, S, "machine 1\n" + line + "\nstanding b\n? b\n")

    def test_arrow_form(self):
        for line in ("", " ", "0", "a", "0 a b", "0  a", " 0 a", "0 a ", "00 a", "2 a", "- a", "0 A", "0 abcdefg", "0 1",
                     "0 *", "** a", "#? a", "= a", "0 0 a", "machine 1", "standing", "0 a\t", "0 a1"):
            self.fails(BadText, (2, "form"), read_machine, S, "machine 1\nstanding a\n" + line + "\nx\n")
        for line in ("0 a", "0 0 0 a", "* a", "0 2 a", "0 ?? a", "0 0"):
            self.fails(BadText, (2, "form"), read_machine, S, "machine 2\nstanding a\n" + line + "\n")
        for line in ("0 a", "? a", "0?? a", "?* a", "0# a", "02 a"):
            self.fails(BadText, (3, "form"), read_machine, IO, "machine 1\nstanding a\n?? a\n" + line + "\n")

    def test_pattern_of_the_right_part(self):
        letters = Letters(("a", "01"), ("b", "xy"))
        self.assertEqual(read_machine(letters, "machine 1\nstanding a\n?y a\n").rows[0], (1, 0, 1, 0))
        self.fails(BadText, (2, "form"), read_machine, letters, "machine 1\nstanding a\ny? a\n")
        self.fails(BadText, (2, "form"), read_machine, letters, "machine 1\nstanding a\n?0 a\n")

    def test_line_feed(self):
        self.fails(BadText, (4, "form"), read_machine, S, "machine 1\nstanding a\n0 a\n1 a\nstanding b")
        self.fails(BadText, (1, "form"), read_machine, S, "machine 1\nstanding a")
        self.fails(BadText, (2, "form"), read_machine, S, "machine 1\nstanding a\n ")
        self.fails(BadText, (2, "form"), read_machine, S, "machine 1\nstanding a\n\n")
        self.fails(BadText, (2, "twice"), read_machine, S, "machine 1\nstanding a\nstanding a\nx")

    def test_twice(self):
        self.fails(BadText, (3, "twice"), read_machine, S, "machine 1\nstanding a\n0 zz\nstanding a end\nx\n")
        self.fails(BadText, (3, "twice"), read_machine, S, "machine 1\nstanding a\nstanding b\nstanding b\n")

    def test_missing(self):
        self.fails(BadText, (0, "missing"), read_machine, S, "")
        self.fails(BadText, (1, "missing"), read_machine, S, "machine 1\n", machine_name="")

    def test_unknown(self):
        text = "machine 1\nstanding a\n0 b\n1 c\nstanding b\n0 d\n"
        self.fails(BadText, (3, "unknown"), read_machine, S, text)
        self.fails(BadText, (2, "unknown"), read_machine, S, "machine 1\nstanding a\n0 zz\n1 yy\n", machine_name="A")
        self.fails(BadText, (3, "form"), read_machine, S, "machine 1\nstanding a\n0 zz\nx\n")

    def test_wrong_name_comes_last(self):
        self.fails(BadName, ("A",), read_machine, S, LAST, machine_name="A")
        self.fails(BadText, (7, "form"), read_machine, S, LAST + "x\n", machine_name="A")

    def test_names_like_words(self):
        machine = read_machine(S, "machine 1\nstanding end\n0 end\n1 stand\nstanding stand end\n? end\n")
        self.assertEqual(machine, Machine(S, 1, [[0, 1], [0, 0]], [False, True]))


class TextTest(Case):
    def test_text(self):
        machine = Machine(S, 1, [[0, 1], [0, 1]], [False, True])
        self.assertEqual(machine_text(machine), "machine 1\nstanding a\n0 a\n1 b\nstanding b end\n0 a\n1 b\n")
        two = Machine(ONE, 2, [[0, 1, 0], [1, 1, 1]], [True, False], machine_name="x")
        self.assertEqual(machine_text(two), "machine 2\nstanding a end\n# 0 a\n0 # b\n0 0 a\n"
                                            "standing b\n# 0 b\n0 # b\n0 0 b\n")

    def test_read_back(self):
        for letters, tapes in ((S, 1), (S, 2), (S, 3), (IO, 2), (ONE, 4), (LARGE, 1), (SIXTEEN, 1)):
            for standings in (1, 2, 12):
                machine = some_machine(letters, tapes, standings, standings)
                self.assertEqual(read_machine(letters, machine_text(machine)), machine)

    def test_all_rows(self):
        machine = any_row(S, 2)
        self.assertTrue(is_least(read_machine(S, machine_text(machine))))

    def test_limits(self):
        self.fails(TooMany, ("standings", 13), machine_text, some_machine(IO, 3, 13, 1))
        self.fails(TooMany, ("standings", 13), machine_text, some_machine(S, 1, 13, 1))
        self.fails(TooMany, ("arrows", 124), machine_text, some_machine(IO, 3, 12, 1))
        self.fails(TooMany, ("arrows", 80), machine_text, some_machine(S, 4, 1, 1))
        six = Letters(("a", "012345"))
        self.fails(TooMany, ("arrows", 48), machine_text, some_machine(six, 2, 2, 1))


if __name__ == "__main__":
    unittest.main()
