"""How texts are read as terms and written again, asked through rule and show, and through refl."""

import unittest

from tests.calling import ask, lines, nested, text_answer

SIGNATURE = lines("sorts num", "a num", "abcdefghij12 num", "f num num", "g num num num", "h num num num num")


def sides(text):
    return ask(("signature", SIGNATURE), ("rule", text + "=f(?x)"), ("rule", "f(?x)=" + text), ("show", 0), ("show", 1))


class Read(unittest.TestCase):
    def check(self, text, form):
        found = sides(text)
        self.assertEqual(found[1:3], [[0], [1]], text)
        self.assertEqual(found[3], text_answer(form + " = f(?x)"), text)
        self.assertEqual(found[4], text_answer("f(?x) = " + form), text)

    def test_plain(self):
        for text in ("0", "7", "-7", "10", "?x", "?y9", "a", "f(a)", "g(1,?x)", "h(f(1),g(a,-2),?abcdefghij12)"):
            self.check(text, text)

    def test_longest_name(self):
        self.check("abcdefghij12", "abcdefghij12")
        self.check("?abcdefghij12", "?abcdefghij12")

    def test_every_letter_and_digit(self):
        names = ("abcdefghijkl", "mnopqrstuvwx", "yz0123456789")
        start = ("signature", lines("sorts " + " ".join(names), *[f"{name} {name}" for name in names]))
        found = ask(start, *[("rule", f"{name}=?{name}") for name in names], *[("show", number) for number in range(3)])
        self.assertEqual(found[1:], [[0], [1], [2]] + [text_answer(f"{name} = ?{name}") for name in names])

    def test_names_with_digits_are_no_numerals(self):
        start = ("signature", lines("sorts num b", "c1 b", "d2 b b"))
        found = ask(start, ("line", "refl d2(c1)"), ("line", "refl d2(1)"), ("rule", "c1 = ?x"), ("rule", "c1 = 1"))
        self.assertEqual(found[1:], [[1], [-4], [0], [-3]])

    def test_greatest_numerals(self):
        for text in ("1000000000", "-1000000000", "999999999", "-999999999", "-1"):
            self.check(text, text)

    def test_blanks_between_tokens(self):
        self.check("  g  ( 1 ,  ?x )  ", "g(1,?x)")
        self.check(" a ", "a")
        self.check("f (f( -1) )", "f(f(-1))")

    def test_forty_opened(self):
        # The depth 41 is read, and only then found out of bounds.
        self.assertEqual(sides(nested("f", 40, "1"))[1:3], [[0], [1]])
        self.assertEqual(sides(nested("f", 41, "1"))[1:3], [[-5], [-5]])
        self.assertEqual(sides(nested("f", 42, "1"))[1:3], [[-1], [-1]])

    def test_closed_ones_are_not_counted(self):
        deep = nested("f", 39, "1")
        self.check(f"g({deep},{deep})", f"g({deep},{deep})")


class NoTerm(unittest.TestCase):
    def check(self, *texts):
        for text in texts:
            self.assertEqual(sides(text)[1:3], [[-1], [-1]], text)

    def test_nothing(self):
        self.check("", " ", "   ")

    def test_numerals(self):
        self.check("00", "01", "007", "-0", "-01", "-", "--1", "- 1", "+1", "1000000001", "-1000000001", "1 000")
        self.check("10000000000", "9" * 20, "9" * 400, "9" * 4400, "-" + "9" * 4400)

    def test_names(self):
        self.check("abcdefghij123", "A", "aB", "1a", "0x", "a_b", "a.b", "-a", "a-1", "1-1")

    def test_unknowns(self):
        self.check("?", "??x", "? x", "?1", "?1a", "?-1", "-?x", "?abcdefghij123", "?X", "?x?y", "a?x", "?x(1)")

    def test_parts(self):
        self.check("f(", "f)", "f()", "f(1", "f(1))", "f(1,)", "f(,1)", "f(1,,2)", "f(1 2)", "f(1)(2)", "f(1)1", "f(1)f")
        self.check("(1)", "()", "(", ")", ",", "1,2", "1 2", "f f", "5(1)", "f((1))", "f(1),f(1)", "1)", "f(1,2", ",1")

    def test_other_bytes(self):
        self.check("f(1)\n", "\n1", "1\t", "f(\r1)", "f(1);", "\x001", "1\xff", "f(1\x80)", "f[1]", "'a'")

    def test_too_many_opened(self):
        self.check(nested("f", 42, "1"), nested("f", 42, "?x"), "f(" * 3900, nested("f", 1000, "1"))
        deep = nested("f", 41, "1")
        self.check(f"g(1,{deep})", f"g({deep},1)")


class FormsInLines(unittest.TestCase):
    def check(self, reason, *texts):
        for text in texts:
            found = ask(("signature", SIGNATURE), ("rule", "f(?x)=?x"), ("line", "refl " + text), ("line", "rule 0 x=" + text))
            self.assertEqual(found[2:], [[reason], [reason]] if reason < 0 else [[1], [2]], text)

    def test_forms(self):
        self.check(0, "1", "-1", "a", "f(a)", "h(1,g(2,3),-1000000000)", "1000000000")

    def test_no_blanks(self):
        self.check(-1, "", " 1", "1 ", "f( 1)", "f (1)", "g(1, 2)", "g(1 ,2)")

    def test_no_unknowns(self):
        self.check(-1, "?x", "f(?x)", "g(1,?y)")

    def test_no_terms(self):
        self.check(-1, "01", "-0", "f()", "A", "f(1", "1000000001", "1=1", "=", "1\n", nested("f", 42, "1"))


if __name__ == "__main__":
    unittest.main()
