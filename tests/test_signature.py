import unittest

from tests.calling import ask, last, lines, text_answer

UP_TO_EIGHT = "sorts a b c d e f g h"


def operators(count):
    return [f"f{number} a" for number in range(count)]


class Taken(unittest.TestCase):
    def check(self, count, *texts):
        self.assertEqual(ask(("signature", lines(*texts))), [[0, count]])

    def test_sorts_alone(self):
        self.check(0, "sorts num")

    def test_operators(self):
        self.check(3, "sorts a b", "c a", "f a b", "g a b a b")

    def test_longest_names(self):
        self.check(1, "sorts abcdefghij12", "z23456789012 abcdefghij12")

    def test_shortest_names(self):
        self.check(1, "sorts a", "z a")

    def test_most_sorts(self):
        self.check(0, UP_TO_EIGHT)

    def test_most_taken(self):
        self.check(1, UP_TO_EIGHT, "f a b c d")

    def test_most_operators(self):
        self.check(40, "sorts a", *operators(40))

    def test_names_of_sorts_and_operators_may_be_the_same(self):
        self.check(3, "sorts sorts a", "sorts a sorts", "a a", "refl sorts")


class Faults(unittest.TestCase):
    def check(self, line, reason, text):
        self.assertEqual(ask(("signature", text)), [[line, reason]])

    def test_no_lines(self):
        self.check(1, 2, "")

    def test_empty_line(self):
        self.check(1, 2, "\n")
        self.check(2, 2, "sorts a\n\n")
        self.check(2, 2, "sorts a\n\nf a\n")

    def test_not_ended(self):
        self.check(1, 1, "sorts a")
        self.check(2, 1, "sorts a\nf a")
        self.check(2, 1, "sorts a\nF")

    def test_unprintable_bytes(self):
        for byte in (0, 9, 13, 31, 127, 128, 255):
            self.check(1, 1, list(b"sorts a") + [byte] + list(b"\n"))
            self.check(2, 1, list(b"sorts a\nf ") + [byte] + list(b"a\n"))

    def test_printable_bytes_make_no_name(self):
        for byte in list(range(33, 48)) + list(range(58, 97)) + list(range(123, 127)):
            self.check(1, 2, list(b"sorts a") + [byte] + list(b"\n"))
            self.check(2, 2, list(b"sorts a\nf") + [byte] + list(b" a\n"))

    def test_blanks(self):
        self.check(1, 2, "sorts  a\n")
        self.check(1, 2, " sorts a\n")
        self.check(1, 2, "sorts a \n")
        self.check(2, 2, "sorts a\nf  a\n")
        self.check(2, 2, "sorts a\n f a\n")
        self.check(2, 2, "sorts a\nf a \n")
        self.check(2, 2, "sorts a\n \n")

    def test_words_that_are_no_names(self):
        self.check(1, 2, "sorts 1a\n")
        self.check(1, 2, "sorts A\n")
        self.check(1, 2, "sorts abcdefghij123\n")
        self.check(2, 2, "sorts a\n1f a\n")
        self.check(2, 2, "sorts a\nz234567890123 a\n")
        self.check(2, 2, "sorts a\nf a 1\n")

    def test_first_line(self):
        self.check(1, 2, "sorts\n")
        self.check(1, 2, "sort a\n")
        self.check(1, 2, "f a\n")
        self.check(1, 2, "a sorts\n")

    def test_later_line_of_one_word(self):
        self.check(2, 2, "sorts a\na\n")

    def test_twice(self):
        self.check(1, 3, "sorts a b a\n")
        self.check(3, 3, "sorts a\nf a\nf a a\n")

    def test_no_sort(self):
        self.check(2, 4, "sorts a\nf b\n")
        self.check(2, 4, "sorts a\nf b a\n")
        self.check(3, 4, "sorts a\nf a\ng f a\n")
        self.check(2, 4, "sorts a\nf sorts\n")

    def test_too_many(self):
        self.check(1, 5, UP_TO_EIGHT + " i\n")
        self.check(2, 5, "sorts a\nf a a a a a\n")
        self.check(42, 5, lines("sorts a", *operators(41)))

    def test_first_of_the_reasons(self):
        self.check(1, 1, "sort A")
        self.check(1, 1, list(b"sort A\x80\n"))
        self.check(1, 2, UP_TO_EIGHT + " a A\n")
        self.check(1, 2, "a a a\n")
        self.check(1, 3, UP_TO_EIGHT + " a\n")
        self.check(3, 2, "sorts a\nf a\nf b B\n")
        self.check(3, 2, "sorts a\nf a\nf\n")
        self.check(3, 3, "sorts a\nf a\nf b b b b b\n")
        self.check(2, 4, "sorts a\nf a a a a b\n")
        self.check(42, 3, lines("sorts a", *operators(40), "f0 a"))
        self.check(42, 4, lines("sorts a", *operators(40), "g b"))

    def test_first_of_the_lines(self):
        self.check(1, 5, UP_TO_EIGHT + " i\nF\n")
        self.check(2, 4, "sorts a\nf b\nF")
        self.check(2, 4, list(b"sorts a\nf b\n\x00\n"))


class WhatChanges(unittest.TestCase):
    START = (("rule", "add(?x,?y) = add(?y,?x)"), ("proof", "rule 0 x=1 y=2\nsym 0\n"))

    def test_rules_and_lines_go(self):
        found = ask(*self.START, ("signature", "sorts num\nadd num num num\n"), ("show", 0), ("text",), ("says", 0))
        self.assertEqual(found[2:], [[0, 1], [-2], [0], [-2]])

    def test_the_new_signature_counts(self):
        found = ask(
            ("signature", "sorts a\nc a\n"), ("line", "refl c"), ("line", "refl 1"), ("line", "refl add(c,c)"),
            ("rule", "add(?x,?y) = add(?y,?x)"), ("rule", "1 = 1"), ("rule", "c = ?x"),
        )
        self.assertEqual(found, [[0, 1], [1], [-4], [-4], [-3], [-3], [0]])

    def test_a_fault_changes_nothing(self):
        for text in ("", "sorts a", "sorts a\nf\n", "sorts num num\n", "sorts num\nf g\n", "sorts a\nf a a a a a\n"):
            found = ask(
                *self.START, ("signature", text), ("show", 0), ("text",), ("says", 1),
                ("line", "refl add(1,2)"), ("line", "refl c"), ("rule", "?x = add(?x,1)"),
            )
            self.assertEqual(found[3:], [
                text_answer("add(?x,?y) = add(?y,?x)"), text_answer("rule 0 x=1 y=2\nsym 0\n"),
                text_answer("add(2,1) = add(1,2)"), [3], [-4], [1],
            ])

    def test_a_new_object(self):
        found = ask(("show", 0), ("text",), ("drop",), ("line", "refl add(1,add(2,3))"), ("line", "refl zero"))
        self.assertEqual(found, [[-2], [0], [-8], [1], [-4]])
        self.assertEqual(ask(("rule", "?x = ?x"), ("rule", "add(?x,?y) = 1")), [[0], [1]])

    def test_the_last_one_counts(self):
        found = last(("signature", "sorts a\nc a\n"), ("signature", "sorts a\nd a\n"), ("line", "refl c"))
        self.assertEqual(found, [-4])


if __name__ == "__main__":
    unittest.main()
