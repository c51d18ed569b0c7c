import unittest

from tests.calling import EXAMPLE, SORTED_SIGNATURE, ask, last, lines, nested, shown_behind, wide

START = (
    ("signature", SORTED_SIGNATURE), ("rule", "neg(?x) = ?x"), ("rule", "zero = 1"),
    ("proof", lines(
        "rule 1", "refl 1", "sym 0", "rule 0 x=zero", "trans 3 0", "rule 1", "refl nil", "cong neg 0", "trans 0 2", "sym 5",
        "refl cons(-1,nil)",
    )),
)


class Find(unittest.TestCase):
    def check(self, found, *texts):
        for text in texts:
            self.assertEqual(last(*START, ("find", text)), [len(found)] + found, text)

    def test_one_line(self):
        self.check([1], "1 = 1")
        self.check([4], "neg(zero) = 1")
        self.check([6], "nil = nil")
        self.check([7], "neg(zero) = neg(1)")
        self.check([8], "zero = zero")

    def test_several_lines(self):
        self.check([0, 5], "zero = 1")
        found = ask(("proof", "refl 1\n" * 300), ("find", "1=1"))
        self.assertEqual(found[1], [300] + list(range(300)))

    def test_the_other_way_round(self):
        self.check([2, 9], "1 = zero")
        self.check([], "1 = neg(zero)")
        self.check([], "neg(1) = neg(zero)")

    def test_blanks(self):
        self.check([0, 5], "zero=1", "  zero  =1 ", "zero =1", " zero=  1   ")
        self.check([7], "neg( zero )=neg (1)", " neg ( zero ) = neg( 1 ) ")
        self.check([10], "cons( -1 , nil ) = cons(-1,nil)")

    def test_sides_that_no_line_says(self):
        self.check([], "2 = 2", "1 = 2", "zero = neg(1)", "neg(zero) = zero1", "nil = 1", "-1 = -1", "1 = -1", "ni = nil")

    def test_one_side_is_not_enough(self):
        self.check([], "zero = nil", "nil = zero", "1 = nil", "neg(zero) = neg(zero)")

    def test_sides_that_do_not_fit(self):
        self.check([], "none = none", "neg = neg", "neg(nil) = neg(nil)", "nil = zero", "neg(1,2) = 1", "zero(1) = 1")

    def test_sides_with_unknowns(self):
        self.check([], "?x = ?x", "neg(?x) = ?x", "?zero = 1", "zero = ?x", "?x = 1", "1 = ?x")

    def test_sides_that_are_not_in_bounds(self):
        self.check([], wide(201) + " = " + wide(201), nested("neg", 41, "1") + " = 1", "1 = " + nested("neg", 41, "?x"))
        self.check([], wide(1001) + " = 1")

    def test_greatest_terms(self):
        for term in (nested("neg", 40, "1"), "neg(" + wide(199).replace("add", "plus") + ")"):
            start = ("signature", SORTED_SIGNATURE + "plus num num num\n")
            self.assertEqual(last(start, ("line", "refl " + term), ("find", term + "=" + term)), [1, 0])

    def test_no_equation(self):
        texts = (
            "", "1", "zero 1", "zero == 1", "zero = 1 =", "= zero = 1", "=", "zero =", "= 1", " = ", "zero = 01", "-0 = 0",
            "zero = 1\n", "zero =\t1", "neg(zero = 1", "zero, = 1", "Zero = 1", "zero = neg()", "zero = 1 1", "zero = ?", "zero - 1",
            "zero = 1000000001", nested("neg", 42, "1") + " = 1", "1 = " + nested("neg", 42, "1"), "zero = 1;", "1 = 1 = 1",
            "zero = \xff1",
        )
        for text in texts:
            self.assertEqual(last(*START, ("find", text)), [-1], text)
        before = shown_behind()[1]
        for text in ("1", "1 = 1 = 1", "7 = (7)"):
            self.assertEqual(shown_behind(("find", text)), ([[-1]], before))

    def test_no_lines(self):
        self.assertEqual(ask(("find", "1 = 1"), ("find", "1 =")), [[0], [-1]])

    def test_lines_that_come_and_go(self):
        found = ask(("find", "1=1"), ("line", "refl 1"), ("find", "1=1"), ("line", "sym 0"), ("find", "1=1"), ("drop",),
                    ("find", "1=1"), ("proof", "refl 2\nrefl 1"), ("find", "1=1"))
        self.assertEqual(found[0::2], [[0], [1, 0], [2, 0, 1], [1, 0], [1, 1]])

    def test_rules_are_no_lines(self):
        self.assertEqual(last(*EXAMPLE, ("rule", "7 = 7"), ("find", "7 = 7")), [0])

    def test_changes_nothing(self):
        self.assertEqual(shown_behind(("find", "7=7"), ("find", "new(?x) = 3")), ([[1, 1], [0]], shown_behind()[1]))


if __name__ == "__main__":
    unittest.main()
