"""leans and part."""

import unittest

from tests.calling import EXAMPLE, SORTED_SIGNATURE, ask, last, lines, shown_behind, text_answer

OUTSIDE = (-1, 5, 6, 300, -2, -(10 ** 18), 10 ** 18)
RULES = (
    ("signature", SORTED_SIGNATURE), ("rule", "neg(?x) = ?x"), ("rule", "1 = zero"), ("rule", "zero = 2"),
    ("rule", "head(cons(?x,?y)) = ?x"),
)
PROOF = lines(
    "rule 3 x=1 y=nil",  # 0
    "rule 1",            # 1
    "refl nil",          # 2
    "trans 0 1",         # 3
    "rule 2",            # 4
    "sym 2",             # 5
    "cong three 3 5 1",  # 6
    "rule 1",            # 7
    "cong cons 7 2",     # 8
    "rule 0 x=1",        # 9
    "trans 9 1",         # 10
    "trans 10 4",        # 11
    "cong zero",         # 12
)


class Leans(unittest.TestCase):
    def check(self, *answers):
        found = ask(*RULES, ("proof", PROOF), *[("leans", number) for number in range(13)])
        self.assertEqual(found[6:], [[len(rules)] + rules for rules in answers])

    def test_each_line(self):
        self.check([3], [1], [], [1, 3], [2], [], [1, 3], [1], [1], [0], [0, 1], [0, 1, 2], [])

    def test_used_twice(self):
        proof = lines("rule 1", "rule 1", "cong neg 0", "cong neg 1", "sym 0", "trans 0 4")
        found = ask(*RULES, ("proof", proof), ("leans", 5), ("leans", 3))
        self.assertEqual(found[-2:], [[1, 1], [1, 1]])
        proof = lines("rule 0 x=1", "rule 0 x=neg(1)", "trans 1 0")
        self.assertEqual(last(*RULES, ("proof", proof), ("leans", 2)), [1, 0])

    def test_rules_of_lines_not_under_the_line(self):
        found = ask(*RULES, ("proof", lines("rule 0 x=1", "refl 1", "rule 2", "sym 1")), *[("leans", number) for number in range(4)])
        self.assertEqual(found[-4:], [[1, 0], [0], [1, 2], [0]])

    def test_leans_on_none(self):
        found = ask(("proof", lines("refl 1", "sym 0", "trans 0 1", "cong add 2 2")), ("leans", 0), ("leans", 3))
        self.assertEqual(found[1:], [[0], [0]])

    def test_rising_by_number(self):
        rules = [("rule", f"{number} = {number + 1}") for number in range(12)]
        proof = lines("rule 11", "rule 2", "cong add 0 1", "rule 10", "cong add 3 2", "rule 9", "cong add 4 5")
        self.assertEqual(last(*rules, ("proof", proof), ("leans", 6)), [4, 2, 9, 10, 11])

    def test_all_forty_rules_through_many_lines(self):
        rules = [("rule", f"{number} = {number + 1}") for number in range(40)]
        proof = "rule 0\n" + "".join(f"rule {n}\ntrans {2 * n - 2} {2 * n - 1}\n" for n in range(1, 40))
        found = ask(*rules, ("proof", proof), ("says", 78), ("leans", 78), ("leans", 76))
        self.assertEqual(found[-3:], [text_answer("0 = 40"), [40] + list(range(40)), [39] + list(range(39))])

    def test_no_line(self):
        for number in OUTSIDE:
            self.assertEqual(shown_behind(("leans", number)), ([[-2]], shown_behind()[1]))
        self.assertEqual(ask(("leans", 0)), [[-2]])

    def test_a_dropped_line_is_none(self):
        found = ask(*EXAMPLE, ("drop",), ("leans", 2), ("leans", 1))
        self.assertEqual(found[-2:], [[-2], [1, 1]])

    def test_changes_nothing(self):
        self.assertEqual(shown_behind(("leans", 3), ("leans", 1)), ([[1, 1], [0]], shown_behind()[1]))


class Part(unittest.TestCase):
    def check(self, number, *texts):
        found = ask(*RULES, ("proof", PROOF), ("part", number), ("says", number))
        self.assertEqual(found[-2], text_answer(lines(*texts)))
        again = ask(*RULES, ("proof", found[-2][1:]), ("says", len(texts) - 1), ("text",), ("part", len(texts) - 1))
        self.assertEqual(again[5:], [[0, len(texts)], found[-1], found[-2], found[-2]])

    def test_lines_that_tell_none(self):
        self.check(0, "rule 3 x=1 y=nil")
        self.check(2, "refl nil")
        self.check(4, "rule 2")
        self.check(12, "cong zero")

    def test_lines_left_out_between_others(self):
        self.check(5, "refl nil", "sym 0")
        self.check(3, "rule 3 x=1 y=nil", "rule 1", "trans 0 1")
        self.check(10, "rule 1", "rule 0 x=1", "trans 1 0")
        self.check(11, "rule 1", "rule 2", "rule 0 x=1", "trans 2 0", "trans 3 1")

    def test_cong_with_several_numbers(self):
        self.check(6, "rule 3 x=1 y=nil", "rule 1", "refl nil", "trans 0 1", "sym 2", "cong three 3 4 1")
        self.check(8, "refl nil", "rule 1", "cong cons 1 0")

    def test_lines_told_twice(self):
        proof = lines("refl 5", "refl 1", "trans 1 1", "refl 6", "cong add 2 2", "cong add 4 1")
        found = ask(("proof", proof), ("part", 2), ("part", 4), ("part", 5))
        self.assertEqual(found[1:], [text_answer(text) for text in (
            lines("refl 1", "trans 0 0"), lines("refl 1", "trans 0 0", "cong add 1 1"),
            lines("refl 1", "trans 0 0", "cong add 1 1", "cong add 2 0"),
        )])

    def test_first_and_last_line(self):
        proof = lines("refl 1", "sym 0", "sym 1", "sym 2")
        self.assertEqual(ask(("proof", proof), ("part", 0), ("part", 3))[1:], [text_answer("refl 1\n"), text_answer(proof)])

    def test_names_and_terms_that_look_like_numbers_of_lines(self):
        start = ("signature", lines("sorts num", "x2 num num", "r num num num"))
        proof = lines("refl 0", "refl 2", "refl r(1,2)", "rule 0 x1=2", "cong x2 3", "cong r 4 2")
        found = ask(start, ("rule", "x2(?x1) = ?x1"), ("proof", proof), ("part", 5))
        self.assertEqual(found[-1], text_answer(lines("refl r(1,2)", "rule 0 x1=2", "cong x2 1", "cong r 2 0")))

    def test_numbers_of_rules_stay(self):
        rules = [("rule", f"{number} = {number + 1}") for number in range(12)]
        proof = lines("refl 1", "rule 10", "rule 11", "trans 1 2")
        self.assertEqual(last(*rules, ("proof", proof), ("part", 3)), text_answer(lines("rule 10", "rule 11", "trans 0 1")))

    def test_longer_and_shorter_numbers(self):
        proof = "refl 1\n" * 299 + "trans 298 100\n"
        self.assertEqual(last(("proof", proof), ("part", 299)), text_answer("refl 1\nrefl 1\ntrans 1 0\n"))
        chain = "refl 2\nrefl 1\n" + "".join(f"sym {number}\n" for number in range(1, 299))
        shorter = "refl 1\n" + "".join(f"sym {number}\n" for number in range(298))
        self.assertEqual(last(("proof", chain), ("part", 299)), text_answer(shorter))

    def test_no_line(self):
        for number in OUTSIDE:
            self.assertEqual(shown_behind(("part", number)), ([[-2]], shown_behind()[1]))
        self.assertEqual(ask(("part", 0)), [[-2]])

    def test_changes_nothing(self):
        found = shown_behind(("part", 3), ("part", 4))
        self.assertEqual(found[0], [text_answer(lines("rule 1 x=5", "sym 0", "cong neg 1")), text_answer("rule 2 x=4\n")])
        self.assertEqual(found[1], shown_behind()[1])


if __name__ == "__main__":
    unittest.main()
