"""The five kinds of lines, and the reasons 1 to 7 of their faults, asked through line and through proof."""

import unittest

from tests.calling import SORTED_SIGNATURE, ask, last, lines, nested, text_answer, wide

START = (
    ("signature", SORTED_SIGNATURE + lines("add num num num")),
    ("rule", "head(cons(?x,?y)) = ?x"),
    ("rule", "cons(?y,?x) = cons(?y,cons(?z,?x))"),
    ("rule", "1 = zero"),
    ("rule", "add(?x,?x) = add(?x,add(?x,?x))"),
)
STANDING = ("refl 1", "refl nil", "rule 2", "cong neg 2", "rule 0 x=5 y=nil")
PROOF = lines(*STANDING)


class Said(unittest.TestCase):
    def check(self, text, says):
        found = ask(*START, ("proof", PROOF), ("line", text), ("says", 5), ("text",))
        self.assertEqual(found[-3:], [[6], text_answer(says), text_answer(PROOF + text + "\n")], text)
        found = ask(*START, ("proof", PROOF + text), ("says", 5))
        self.assertEqual(found[-2:], [[0, 6], text_answer(says)], text)

    def test_refl(self):
        self.check("refl cons(-1,nil)", "cons(-1,nil) = cons(-1,nil)")
        self.check("refl 0", "0 = 0")

    def test_sym(self):
        self.check("sym 2", "zero = 1")
        self.check("sym 4", "5 = head(cons(5,nil))")

    def test_trans(self):
        self.check("trans 0 2", "1 = zero")
        self.check("trans 1 1", "nil = nil")
        self.check("trans 0 0", "1 = 1")

    def test_cong(self):
        self.check("cong nil", "nil = nil")
        self.check("cong neg 3", "neg(neg(1)) = neg(neg(zero))")
        self.check("cong cons 2 1", "cons(1,nil) = cons(zero,nil)")
        self.check("cong add 2 4", "add(1,head(cons(5,nil))) = add(zero,5)")
        self.check("cong three 2 1 4", "three(1,nil,head(cons(5,nil))) = three(zero,nil,5)")

    def test_rule(self):
        self.check("rule 2", "1 = zero")
        self.check("rule 0 x=neg(2) y=cons(3,nil)", "head(cons(neg(2),cons(3,nil))) = neg(2)")
        self.check("rule 1 y=7 x=nil z=-8", "cons(7,nil) = cons(7,cons(-8,nil))")
        self.check("rule 3 x=0", "add(0,0) = add(0,add(0,0))")

    def test_sym_of_sym(self):
        found = ask(*START, ("proof", PROOF + "sym 2\nsym 5\ntrans 5 6\n"), ("says", 6), ("says", 7))
        self.assertEqual(found[-2:], [text_answer("1 = zero"), text_answer("zero = zero")])


class Faulty(unittest.TestCase):
    def check(self, reason, *texts, proof=PROOF):
        standing = proof.count("\n")
        for text in texts:
            found = ask(*START, ("proof", proof), ("line", text), ("text",), ("line", "refl 1"))
            self.assertEqual(found[5:], [[0, standing], [-reason], text_answer(proof), [standing + 1]], text)
            if "\n" not in text and text:
                found = ask(*START, ("proof", "refl 7"), ("proof", proof + text), ("text",))
                self.assertEqual(found[5:], [[0, 1], [standing + 1, reason], text_answer("refl 7\n")], text)


class ReasonOne(Faulty):
    def test_first_word(self):
        self.check(1, "", " ", "Refl 1", "reflex 1", "re 1", "1", "0", "symm 0", " refl 1", "sorts num", "?", "refl", "=")

    def test_number_of_words(self):
        self.check(1, "refl", "refl ", "refl 1 1", "refl 1 ", "refl  1", "sym", "sym ", "sym 0 0", "sym 0 ", "sym  0")
        self.check(1, "trans", "trans 0", "trans 0 0 0", "trans 0  0", "trans 0 0 ", "cong", "cong ", "cong neg ", "cong  neg 0")
        self.check(1, "rule", "rule ", "rule 2 ", "rule  2", "rule 0 x=5 y=nil ", "rule 0  x=5 y=nil", "cong neg  0")

    def test_numbers(self):
        for word in ("00", "01", "-0", "-1", "+0", "a", "0a", "?0", "0.", "1,", "", "0\xb2", "\xb2", "0x0"):
            self.check(1, f"sym {word}", f"trans {word} 0", f"trans 0 {word}", f"cong neg {word}", f"cong add 0 {word}")
            self.check(1, f"rule {word}", f"rule {word} x=5 y=nil")

    def test_names(self):
        self.check(1, "cong 1 0", "cong Neg 0", "cong ?neg 0", "cong neg( 0", "cong abcdefghij123 0", "cong 9 0", "cong - 0")
        self.check(1, "rule 0 X=5 y=nil", "rule 0 ?x=5 y=nil", "rule 0 =5 y=nil", "rule 0 1=5 y=nil", "rule 0 x=5 abcdefghij123=nil")

    def test_terms(self):
        self.check(1, "refl ?x", "refl f(", "refl 01", "refl 1=1", "refl neg(?x)", "refl 1\n", "refl 1\nrefl 1", "refl 1\t")
        self.check(1, "rule 0 x=?y y=nil", "rule 0 x= y=nil", "rule 0 x y=nil", "rule 0 x==5 y=nil", "rule 0 x=5=5 y=nil")
        self.check(1, "rule 0 5 nil", "rule 0 x=5 y=nil\n", "rule 0 x=5 y=cons(1, nil)", "rule 0 x=5 y=nil=")

    def test_ahead_of_the_others(self):
        self.check(1, "sym 99 9", "trans 99 01", "cong none 99 x", "cong None 99", "rule 99 x=?x", "rule 99 x", "refl none(?x)")


class ReasonTwo(Faulty):
    def test_no_earlier_line(self):
        for number in ("5", "6", "300", "1000000000000000000", "9" * 25, "1" + "0" * 4400):
            self.check(2, f"sym {number}", f"trans {number} 0", f"trans 0 {number}", f"cong neg {number}", f"cong add 0 {number}")

    def test_no_lines_at_all(self):
        self.check(2, "sym 0", "trans 0 0", "cong neg 0", proof="")

    def test_ahead_of_the_others(self):
        self.check(2, "cong none 5", "cong neg 0 5", "trans 1 5")


class ReasonThree(Faulty):
    def test_no_rule(self):
        self.check(3, "rule 4", "rule 5", "rule 40", "rule 4 x=5", "rule " + "9" * 25, "rule 1" + "0" * 4400)

    def test_no_operator(self):
        self.check(3, "cong none", "cong none 0", "cong num 0", "cong none 0 0 0 0", "cong ne 0", "cong abcdefghij12")

    def test_ahead_of_the_others(self):
        self.check(3, "rule 4 x=none", "rule 4 x=" + wide(201))


class ReasonFour(Faulty):
    def test_term_does_not_fit(self):
        self.check(4, "refl none", "refl neg", "refl neg(1,2)", "refl nil(1)", "refl neg(nil)", "refl cons(nil,1)", "refl add(1,none)")
        self.check(4, "rule 0 x=none y=nil", "rule 0 x=5 y=cons(1)", "rule 0 x=neg(nil) y=nil")

    def test_numerals_without_the_sort_num(self):
        start = ("signature", lines("sorts a", "f a a", "c a"))
        self.assertEqual(ask(start, ("line", "refl 1"), ("line", "refl f(1)"), ("line", "refl f(c)"))[1:], [[-4], [-4], [1]])

    def test_number_of_words(self):
        self.check(4, "rule 0", "rule 0 x=5", "rule 0 x=5 y=nil z=5", "rule 2 x=5", "rule 0 x=5 y=nil y=nil", "rule 3")

    def test_names(self):
        self.check(4, "rule 0 y=nil x=5", "rule 0 x=5 z=nil", "rule 0 a=5 y=nil", "rule 1 x=nil y=7 z=8", "rule 0 x=5 x=5")

    def test_another_sort(self):
        self.check(4, "rule 0 x=nil y=nil", "rule 0 x=5 y=5", "rule 1 y=7 x=nil z=nil", "rule 3 x=nil")

    def test_ahead_of_the_others(self):
        self.check(4, "refl none(" + wide(201) + ")", "refl " + nested("neg", 41, "nil"), "rule 3 y=" + wide(201))


class ReasonFive(Faulty):
    def test_trans(self):
        self.check(5, "trans 2 0", "trans 0 1", "trans 4 4", "trans 2 3", "trans 2 2")

    def test_cong_numbers(self):
        self.check(5, "cong neg", "cong neg 0 0", "cong nil 0", "cong add 0", "cong add 0 0 0", "cong three 0 1", "cong three 0 1 0 1")

    def test_cong_sorts(self):
        self.check(5, "cong neg 1", "cong cons 0 0", "cong cons 1 0", "cong head 0", "cong three 0 0 0", "cong three 0 1 1")

    def test_trans_needs_the_same_term_not_an_equal_one(self):
        self.check(5, "trans 5 2", "trans 2 0", proof=PROOF + "refl zero\n")


class ReasonSix(Faulty):
    def test_refl(self):
        self.check(6, "refl " + wide(201), "refl " + nested("neg", 41, "1"), "refl neg(neg(" + wide(199) + "))")
        self.assertEqual(last(*START, ("line", "refl neg(" + wide(199) + ")")), [1])
        self.assertEqual(last(*START, ("line", "refl " + nested("neg", 40, "1"))), [1])

    def test_cong(self):
        self.check(6, "cong add 0 1", "cong neg 1", proof=lines("refl 1", "refl neg(" + wide(199) + ")"))
        self.check(6, "cong neg 0", "cong add 0 0", proof=lines("refl " + nested("neg", 40, "1")))
        self.assertEqual(last(*START, ("proof", lines("refl " + wide(99), "cong add 0 0", "cong neg 1"))), [0, 3])
        self.assertEqual(last(*START, ("proof", lines("refl " + nested("neg", 39, "1"), "cong neg 0"))), [0, 2])

    def test_rule(self):
        # The right side has three times the term and two nodes more.
        self.check(6, "rule 3 x=" + wide(67), "rule 3 x=" + wide(1001), "rule 3 x=" + nested("neg", 39, "1"))
        self.assertEqual(last(*START, ("line", "rule 3 x=neg(" + wide(65) + ")")), [1])
        self.assertEqual(last(*START, ("line", "rule 3 x=" + nested("neg", 38, "1"))), [1])

    def test_left_side_alone(self):
        start = (("rule", "add(?x,add(?y,?y)) = ?x"), ("rule", "?x = add(?x,add(?y,?y))"))
        found = ask(*start, ("line", "rule 0 x=1 y=" + wide(99)), ("line", "rule 1 x=1 y=" + wide(99)))
        self.assertEqual(found[2:], [[-6], [-6]])

    def test_very_great_terms(self):
        rule = ("rule", "1 = " + wide(199, "?x"))
        self.assertEqual(ask(rule, ("line", "rule 0 x=" + wide(2001)), ("line", "rule 0 x=1"))[1:], [[-6], [1]])


class ReasonSeven(unittest.TestCase):
    FULL = "refl 1\n" * 300

    def test_three_hundred(self):
        found = ask(("proof", self.FULL), ("line", "refl 1"), ("line", "sym 299"), ("says", 299), ("says", 300), ("drop",))
        self.assertEqual(found, [[0, 300], [-7], [-7], text_answer("1 = 1"), [-2], [299]])

    def test_one_more(self):
        self.assertEqual(ask(("proof", self.FULL + "refl 2\n"), ("text",)), [[301, 7], [0]])
        self.assertEqual(ask(("proof", self.FULL + "refl 2"), ("text",)), [[301, 7], [0]])

    def test_the_last_one(self):
        found = ask(("proof", "refl 1\n" * 299), ("line", "refl 2"), ("line", "refl 3"), ("text",))
        self.assertEqual(found, [[0, 299], [300], [-7], text_answer("refl 1\n" * 299 + "refl 2\n")])

    def test_room_again(self):
        found = ask(("proof", self.FULL), ("drop",), ("line", "sym 0"), ("line", "sym 0"))
        self.assertEqual(found, [[0, 300], [299], [300], [-7]])

    def test_behind_the_others(self):
        faulty = ("refl", "sym 300", "rule 0", "refl none", "cong add 0", "refl " + wide(201))
        found = ask(("proof", self.FULL), *[("line", text) for text in faulty])
        self.assertEqual(found[1:], [[-1], [-2], [-3], [-4], [-5], [-6]])
        for reason, text in enumerate(faulty, start=1):
            self.assertEqual(ask(("proof", self.FULL + text)), [[301, reason]])


if __name__ == "__main__":
    unittest.main()
