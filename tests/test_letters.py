import itertools
import unittest

from fewbreak.errors import BadLetters, BadNumber, BadText, TooMany, UnknownPart
from fewbreak.letters import Letters, is_name, read_letters
from plain import Case, IO, SIXTEEN

ALL = "0123456789abcdef"


class NameTest(Case):
    def test_names(self):
        for text in ("a", "z", "in", "abcdef", "end", "standi"):
            self.assertIs(is_name(text), True, text)

    def test_others(self):
        for text in ("", "abcdefg", "A", "aB", "a1", "1", "a b", " a", "a ", "a\n", "-", "a:", "a.b", "{", "`"):
            self.assertIs(is_name(text), False, text)


class LettersTest(Case):
    def test_order(self):
        self.assertEqual(IO.listed(), ["00", "01", "10", "11"])
        self.assertEqual(Letters(("x", "ba"), ("y", "z9")).listed(), ["bz", "b9", "az", "a9"])
        self.assertEqual(Letters(("a", ALL)).listed(), list(ALL))
        self.assertEqual(SIXTEEN.listed(), ["".join(one) for one in itertools.product("01", repeat=4)])
        self.assertEqual(Letters(("a", "z")).listed(), ["z"])
        self.assertEqual(Letters(("a", "012"), ("b", "5"), ("c", "43")).listed(),
                         ["054", "053", "154", "153", "254", "253"])

    def test_attributes(self):
        self.assertEqual(IO.names, ("in", "out"))
        self.assertEqual(IO.signs, ("01", "01"))
        self.assertIs(type(IO.names), tuple)
        self.assertIs(type(IO.signs), tuple)

    def test_pairs_may_be_lists(self):
        self.assertEqual(Letters(["in", "01"], ["out", "01"]), IO)

    def test_listed_is_new(self):
        IO.listed().append("x")
        IO.listed().clear()
        self.assertEqual(IO.listed(), ["00", "01", "10", "11"])

    def test_place(self):
        for at, letter in enumerate(SIXTEEN.listed()):
            self.assertEqual(SIXTEEN.place(letter), at)
        for text in ("", "0", "000", "02", "#", "0 0", "##"):
            self.fails(BadNumber, (text,), IO.place, text)

    def test_is_letter(self):
        for text in ("00", "01", "10", "11"):
            self.assertIs(IO.is_letter(text), True)
            self.assertTrue(text in IO)
        for text in ("", "0", "000", "20", "#", "##", "in", "00\n"):
            self.assertIs(IO.is_letter(text), False)
            self.assertFalse(text in IO)

    def test_signs_of(self):
        letters = Letters(("a", "x0"), ("b", "10"))
        self.assertEqual(letters.signs_of("a"), "x0")
        self.assertEqual(letters.signs_of("b"), "10")
        for name in ("c", "", "ab", "x0"):
            self.fails(UnknownPart, (name,), letters.signs_of, name)

    def test_seen(self):
        letters = Letters(("a", "01"), ("b", "xy"), ("c", "78"))
        self.assertEqual(letters.seen("1x8", ["a", "b", "c"]), "1x8")
        self.assertEqual(letters.seen("1x8", ["c", "a"]), "81")
        self.assertEqual(letters.seen("1x8", ("b", "b", "a", "b")), "xx1x")
        self.assertEqual(letters.seen("1x8", []), "")

    def test_seen_errors(self):
        self.fails(BadNumber, ("2",), IO.seen, "2", ["no"])
        self.fails(BadNumber, ("",), IO.seen, "", [])
        self.fails(UnknownPart, ("no",), IO.seen, "00", ["in", "no", "non"])

    def test_text(self):
        self.assertEqual(str(IO), "in:01 out:01")
        self.assertEqual(repr(IO), "Letters(in:01 out:01)")
        self.assertEqual(str(Letters(("abcdef", "z"))), "abcdef:z")

    def test_len(self):
        self.assertEqual(len(IO), 4)
        self.assertEqual(len(SIXTEEN), 16)
        self.assertEqual(len(Letters(("a", "z"))), 1)

    def test_equal(self):
        self.assertTrue(IO == Letters(("in", "01"), ("out", "01")))
        for other in (Letters(("out", "01"), ("in", "01")), Letters(("in", "10"), ("out", "01")),
                      Letters(("in", "01"), ("out", "0")), Letters(("in", "01")), Letters(("in", "01"), ("o", "01"))):
            self.assertFalse(IO == other)
            self.assertTrue(IO != other)
        for other in ("in:01 out:01", None, 4, ("00", "01", "10", "11")):
            self.assertFalse(IO == other)


class ConstructorErrorsTest(Case):
    def test_parts(self):
        self.fails(TooMany, ("parts", 5), Letters, *[("A", "")] * 5)
        self.fails(TooMany, ("parts", 6), Letters, *[(name, ALL) for name in "abcdef"])
        self.fails(BadLetters, (-1,), Letters)

    def test_wrong_names(self):
        for name in ("", "abcdefg", "A", "a1", " a", "a:"):
            self.fails(BadLetters, (0,), Letters, (name, "01"))
            self.fails(BadLetters, (1,), Letters, ("a", "01"), (name, "01"), ("A", "01"))
        self.fails(BadLetters, (2,), Letters, ("a", "0"), ("b", "0"), ("a", "1"))

    def test_wrong_signs(self):
        for signs in ("", "00", "010", ALL + "g", "A", "0 ", "#", "?", "*", "=", "-", ".", "0\n"):
            self.fails(BadLetters, (0,), Letters, ("a", signs))
            self.fails(BadLetters, (1,), Letters, ("a", "01"), ("b", signs), ("a", signs))

    def test_wrong_part_ahead_of_letters(self):
        self.fails(BadLetters, (2,), Letters, ("a", ALL), ("b", ALL), ("b", "0"))

    def test_many_letters(self):
        self.fails(TooMany, ("letters", 32), Letters, ("a", ALL), ("b", "01"))
        self.fails(TooMany, ("letters", 20), Letters, ("a", "01234"), ("b", "0123"))
        self.fails(TooMany, ("letters", 24), Letters, ("a", "01"), ("b", "01"), ("c", "01"), ("d", "012"))
        self.fails(TooMany, ("letters", 16 ** 4), Letters, *[(name, ALL) for name in "abcd"])
        self.assertEqual(len(Letters(("a", "0123"), ("b", "0123"))), 16)


class ReadTest(Case):
    def test_read(self):
        self.assertEqual(read_letters("in:01 out:01"), IO)
        self.assertEqual(read_letters("a:" + ALL), Letters(("a", ALL)))
        for letters in (IO, SIXTEEN, Letters(("x", "ba"), ("y", "z9"))):
            self.assertEqual(read_letters(str(letters)), letters)

    def test_form(self):
        for text in ("", " ", "in", "in:01  out:01", " in:01", "in:01 ", "in::01", "in:0:1", "in:01 out", "in01",
                     "a:0 b:0 c:0 d:0 e", "A: b", "in:01 out:01 "):
            self.fails(BadText, (0, "form"), read_letters, text)

    def test_then_constructor(self):
        self.fails(BadLetters, (0,), read_letters, ":")
        self.fails(BadLetters, (0,), read_letters, "in:01\n")
        self.fails(BadLetters, (1,), read_letters, "in:01 \nout:01")
        self.fails(BadLetters, (1,), read_letters, "in:01 in:01")
        self.fails(TooMany, ("parts", 5), read_letters, "a:0 b:0 c:0 d:0 A:")
        self.fails(TooMany, ("letters", 32), read_letters, "a:" + ALL + " b:01")


if __name__ == "__main__":
    unittest.main()
