import unittest

from fewbreak.errors import BadName, BadText
from fewbreak.letters import LOWERCASE, Letters
from fewbreak.programs import Program
from fewbreak.programtexts import read_program
from plain import Case, DELAY, IO, S, SIXTEEN, THREE

HEAD = "program\nstanding a end\n"


class ReadTest(Case):
    def test_delay(self):
        rows = [[("00", 0), ("00", 0), ("10", 1), ("10", 1)], [("01", 0), ("01", 0), ("11", 1), ("11", 1)]]
        program = read_program(IO, IO, DELAY)
        self.assertEqual(program, Program(IO, IO, rows, [True, True]))
        self.assertEqual(program.name, "made")
        self.assertEqual(read_program(IO, IO, DELAY, program_name="delay").name, "delay")
        with self.assertRaises(TypeError):
            read_program(IO, IO, DELAY, "delay")

    def test_no_line_where_no_arrow_fits(self):
        program = read_program(S, THREE, "program\nstanding b\n1 2 a\nstanding a end\n")
        self.assertEqual(program, Program(S, THREE, [[None, ("2", 1)], [None, None]], [False, True]))

    def test_first_arrow_counts(self):
        program = read_program(S, THREE, HEAD + "1 2 a\n? 1 b\n0 0 a\n1 0 b\nstanding b\n")
        self.assertEqual(program.rows, ((("1", 1), ("2", 0)), (None, None)))

    def test_patterns(self):
        program = read_program(IO, S, HEAD + "01 0 a\n?1 1 a\n1? 0 a\n")
        self.assertEqual(program.rows, ((None, ("0", 0), ("0", 0), ("1", 0)),))
        program = read_program(SIXTEEN, S, HEAD + "?0?1 1 a\n???? 0 a\n")
        for place, letter in enumerate(SIXTEEN.listed()):
            self.assertEqual(program.rows[0][place], ("1" if letter[1] + letter[3] == "01" else "0", 0))

    def test_copied_signs(self):
        read = Letters(("a", "01"), ("b", "xy"), ("c", "9"))
        write = Letters(("b", "zyx"), ("n", "5"), ("a", "10"))
        program = read_program(read, write, HEAD + "1?? =5= a\n??? =50 a\n")
        self.assertEqual(program.rows[0], (("x50", 0), ("y50", 0), ("x51", 0), ("y51", 0)))

    def test_copy_may_not_stand(self):
        read = Letters(("a", "012"), ("b", "xy"))
        write = Letters(("a", "01"), ("b", "xyz"), ("n", "5"))
        self.assertEqual(read_program(read, write, HEAD + "?? 0=5 a\n").line_of(0, "2y"), ("0y5", 0))
        # the read part has a sign more, also where the pattern fits only the other ones
        for word in ("=x5", "==5"):
            self.fails(BadText, (2, "form"), read_program, read, write, HEAD + "0? " + word + " a\n")
        # no read part has the name
        self.fails(BadText, (2, "form"), read_program, read, write, HEAD + "?? 0x= a\n")

    def test_head(self):
        for head in ("", "program ", " program", "program 1", "Program", "machine 1", "standing a", "program\t"):
            self.fails(BadText, (0, "form"), read_program, S, S, head + "\nstanding a\n")
        self.fails(BadText, (0, "form"), read_program, S, S, "program")
        self.fails(BadText, (0, "form"), read_program, S, S, "\n")

    def test_second_line(self):
        for line in ("0 0 a", "", "standing", "standing A", "standing a end end", "standing  a", " standing a",
                     "standing a ", "standing a x", "program", "standing abcdefg"):
            self.fails(BadText, (1, "form"), read_program, S, S, "program\n" + line + "\nstanding b\n")

    def test_arrow_form(self):
        for line in ("", " ", "0", "0 a", "0 0", "0 0 0 a", "* 0 a", "# 0 a", "0 * a", "0 # a", "0 ? a", "2 0 a",
                     "0 2 a", "00 0 a", "0 00 a", "0  0 a", " 0 0 a", "0 0 a ", "0 0 A", "0 0 abcdefg", "0 0 1",
                     "0 0 a1", "program", "standing", "= 0 a", "0 == a"):
            self.fails(BadText, (2, "form"), read_program, S, S, HEAD + line + "\nx\n")
        for line in ("0 =0 a", "?? 0 a", "?? =2 a", "?* 00 a", "0? =00 a", "?2 00 a"):
            self.fails(BadText, (2, "form"), read_program, IO, IO, HEAD + line + "\n")

    def test_signs_of_the_right_part(self):
        letters = Letters(("a", "01"), ("b", "xy"))
        self.assertEqual(read_program(letters, letters, HEAD + "?x 1y a\n").line_of(0, "0x"), ("1y", 0))
        self.fails(BadText, (2, "form"), read_program, letters, letters, HEAD + "?x y1 a\n")
        self.fails(BadText, (2, "form"), read_program, letters, letters, HEAD + "x? 1y a\n")

    def test_line_feed(self):
        self.fails(BadText, (3, "form"), read_program, S, S, HEAD + "0 0 a\n1 1 a")
        self.fails(BadText, (1, "form"), read_program, S, S, "program\nstanding a")
        self.fails(BadText, (2, "form"), read_program, S, S, HEAD + "\n")

    def test_many(self):
        text = "program\n" + "".join(f"standing {name}\n" for name in LOWERCASE[:12])
        self.assertEqual(read_program(S, S, text).standings, 12)
        self.fails(BadText, (13, "many"), read_program, S, S, text + "standing m\n")
        self.fails(BadText, (13, "many"), read_program, S, S, text + "standing a\n0 0 zz\n")
        self.fails(BadText, (13, "form"), read_program, S, S, text + "standing m")
        arrows = HEAD + "0 0 a\n" * 40
        self.assertEqual(read_program(S, S, arrows).rows, ((("0", 0), None),))
        self.assertEqual(read_program(S, S, arrows + "standing b\n" + "0 0 a\n" * 40).standings, 2)
        self.fails(BadText, (42, "many"), read_program, S, S, arrows + "1 1 zz\n")
        self.fails(BadText, (42, "form"), read_program, S, S, arrows + "1 2 a\n")

    def test_twice(self):
        self.fails(BadText, (3, "twice"), read_program, S, S, HEAD + "0 0 zz\nstanding a\nx\n")

    def test_missing(self):
        self.fails(BadText, (0, "missing"), read_program, S, S, "", program_name="A")
        self.fails(BadText, (1, "missing"), read_program, S, S, "program\n")

    def test_unknown(self):
        text = HEAD + "0 0 b\n1 1 c\nstanding b\n0 0 d\n"
        self.fails(BadText, (3, "unknown"), read_program, S, S, text, program_name="A")
        self.fails(BadText, (3, "form"), read_program, S, S, HEAD + "0 0 zz\n0 2 a\n")

    def test_wrong_name_comes_last(self):
        self.fails(BadName, ("A",), read_program, IO, IO, DELAY, program_name="A")
        self.fails(BadText, (7, "form"), read_program, IO, IO, DELAY + "x\n", program_name="A")


if __name__ == "__main__":
    unittest.main()
