"""proof, drop, text, says and under."""

import unittest

from tests.calling import EXAMPLE, ask, last, lines, text_answer

OUTSIDE = (-1, 3, 4, 300, -2, -(10 ** 18), 10 ** 18)


class Proof(unittest.TestCase):
    def test_empty_text(self):
        self.assertEqual(ask(("proof", ""), ("text",)), [[0, 0], [0]])
        self.assertEqual(ask(*EXAMPLE, ("proof", ""), ("text",), ("says", 0))[4:], [[0, 0], [0], [-2]])

    def test_last_line_ended_or_not(self):
        for text in ("refl 1\nsym 0", "refl 1\nsym 0\n"):
            self.assertEqual(ask(("proof", text), ("text",)), [[0, 2], text_answer("refl 1\nsym 0\n")])

    def test_empty_lines(self):
        self.assertEqual(ask(("proof", "\n")), [[1, 1]])
        self.assertEqual(ask(("proof", "refl 1\n\n")), [[2, 1]])
        self.assertEqual(ask(("proof", "refl 1\n\nrefl 2\n")), [[2, 1]])
        self.assertEqual(ask(("proof", "\nrefl 1\n")), [[1, 1]])

    def test_only_the_byte_ten_ends_lines(self):
        for sign in "\r\x0b\x0c\x85":
            self.assertEqual(ask(("proof", f"refl 1\nrefl 2{sign}refl 3\n")), [[2, 1]])

    def test_first_faulty_line(self):
        self.assertEqual(ask(("proof", "refl 1\nsym 1\nbad\n")), [[2, 2]])
        self.assertEqual(ask(("proof", "refl zero\nbad\n")), [[1, 4]])
        self.assertEqual(ask(("proof", "refl 1\nrefl 2\ntrans 0 1\nsym 9\n")), [[3, 5]])

    def test_read_behind_the_lines_of_the_text_alone(self):
        self.assertEqual(ask(("proof", "refl 1\nrefl 2\n"), ("proof", "sym 0\n"))[1], [1, 2])
        self.assertEqual(ask(("proof", "refl 1\nrefl 2\n"), ("proof", "refl 3\nsym 1\n"))[1], [2, 2])

    def test_takes_the_place_of_the_lines(self):
        found = ask(*EXAMPLE, ("proof", "refl 7\n"), ("text",), ("says", 0), ("says", 1), ("line", "sym 0"), ("show", 1))
        self.assertEqual(found[4:], [
            [0, 1], text_answer("refl 7\n"), text_answer("7 = 7"), [-2], [2], text_answer("add(?x,zero) = ?x"),
        ])

    def test_a_fault_changes_nothing(self):
        whole = "rule 0 x=zero y=5\nrule 1 x=5\ntrans 0 1\n"
        for text in ("\n", "refl 1\nbad", "sym 0", "refl 9\nrefl none\n", "rule 2\n", "refl 1\nrefl 2\ntrans 0 1\n"):
            found = ask(*EXAMPLE, ("proof", text), ("text",), ("says", 2), ("under", 2), ("line", "sym 2"))
            self.assertNotEqual(found[4][0], 0)
            self.assertEqual(found[5:], [text_answer(whole), text_answer("add(zero,5) = 5"), [3, 0, 1, 2], [4]])

    def test_three_hundred_lines(self):
        self.assertEqual(ask(("proof", "refl 1\n" + "sym 0\n" * 299), ("under", 299)), [[0, 300], [2, 0, 299]])


class Line(unittest.TestCase):
    def test_one_after_the_other(self):
        found = ask(("line", "refl 1"), ("line", "sym 0"), ("line", "bad"), ("line", "sym 3"), ("line", "trans 1 0"), ("text",))
        self.assertEqual(found, [[1], [2], [-1], [-2], [3], text_answer("refl 1\nsym 0\ntrans 1 0\n")])

    def test_behind_the_lines_of_a_proof(self):
        self.assertEqual(last(*EXAMPLE, ("line", "sym 2"), ("says", 3)), text_answer("5 = add(zero,5)"))


class Drop(unittest.TestCase):
    def test_no_line(self):
        self.assertEqual(ask(("drop",), ("text",), ("line", "refl 1"), ("drop",), ("drop",)), [[-8], [0], [1], [0], [-8]])

    def test_the_last_line_goes(self):
        found = ask(*EXAMPLE, ("drop",), ("text",), ("says", 2), ("says", 1), ("drop",), ("drop",), ("drop",), ("show", 0))
        self.assertEqual(found[4:], [
            [2], text_answer("rule 0 x=zero y=5\nrule 1 x=5\n"), [-2], text_answer("add(5,zero) = 5"), [1], [0], [-8],
            text_answer("add(?x,?y) = add(?y,?x)"),
        ])

    def test_a_dropped_line_is_no_earlier_line(self):
        found = ask(("proof", "refl 1\nrefl 2\n"), ("drop",), ("line", "sym 1"), ("line", "refl 3"), ("line", "sym 1"), ("says", 2))
        self.assertEqual(found[1:], [[1], [-2], [2], [3], text_answer("3 = 3")])


class Text(unittest.TestCase):
    def test_no_lines(self):
        self.assertEqual(ask(("text",)), [[0]])

    def test_every_kind_of_line(self):
        whole = lines("rule 0 x=zero y=5", "rule 1 x=5", "trans 0 1", "sym 2", "refl add(-1,zero)", "cong add 4 3", "cong zero")
        self.assertEqual(ask(*EXAMPLE, ("proof", whole), ("text",))[4:], [[0, 7], text_answer(whole)])

    def test_answers_go_back_in(self):
        found = last(*EXAMPLE, ("text",))
        self.assertEqual(ask(*EXAMPLE[:3], ("proof", found[1:]), ("text",))[-2:], [[0, 3], found])


class Says(unittest.TestCase):
    def test_no_line(self):
        for number in OUTSIDE:
            found = ask(*EXAMPLE, ("says", number), ("text",), ("says", 0))
            self.assertEqual(found[4], [-2])
            self.assertEqual(found[6], text_answer("add(zero,5) = add(5,zero)"))
        self.assertEqual(ask(("says", 0)), [[-2]])

    def test_forms(self):
        found = ask(("line", "refl add(add(-1,1000000000),0)"), ("says", 0))
        self.assertEqual(found[1], text_answer("add(add(-1,1000000000),0) = add(add(-1,1000000000),0)"))


class Under(unittest.TestCase):
    def test_no_line(self):
        for number in OUTSIDE:
            self.assertEqual(ask(*EXAMPLE, ("under", number), ("under", 2))[4:], [[-2], [3, 0, 1, 2]])
        self.assertEqual(ask(("under", 0)), [[-2]])

    def test_lines_that_tell_none(self):
        found = ask(*EXAMPLE, ("line", "refl 1"), ("line", "cong zero"), ("under", 0), ("under", 3), ("under", 4))
        self.assertEqual(found[6:], [[1, 0], [1, 3], [1, 4]])

    def test_through_many_lines(self):
        whole = lines("refl 1", "refl 2", "sym 1", "refl 3", "cong add 2 3", "trans 4 4", "sym 0", "cong add 6 5")
        found = ask(("proof", whole), *[("under", number) for number in range(8)])
        self.assertEqual(found[1:], [
            [1, 0], [1, 1], [2, 1, 2], [1, 3], [4, 1, 2, 3, 4], [5, 1, 2, 3, 4, 5], [2, 0, 6], [8, 0, 1, 2, 3, 4, 5, 6, 7],
        ])

    def test_each_line_once_and_rising(self):
        found = ask(("proof", lines("refl 1", "refl 1", "trans 1 0", "trans 2 1", "cong add 3 3")), ("under", 3), ("under", 4))
        self.assertEqual(found[1:], [[4, 0, 1, 2, 3], [5, 0, 1, 2, 3, 4]])

    def test_a_long_chain(self):
        whole = "refl 1\n" + "".join(f"sym {number}\n" for number in range(299))
        self.assertEqual(last(("proof", whole), ("under", 299)), [300] + list(range(300)))
        doubling = "refl 1\n" + "".join(f"trans {number} {number}\n" for number in range(299))
        self.assertEqual(last(("proof", doubling), ("under", 299)), [300] + list(range(300)))


if __name__ == "__main__":
    unittest.main()
