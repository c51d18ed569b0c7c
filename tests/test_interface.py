import unittest

from equationproofs.checker import answers
from tests.calling import EXAMPLE, laid_out, lines, nested, wide

MANY = laid_out(
    *EXAMPLE, ("show", 0), ("show", 9), ("line", "sym 2"), ("line", "bad"), ("text",), ("drop",), ("says", 2), ("under", 2),
    ("signature", "sorts a"), ("proof", "sym 0"), ("says", -1),
)


class Watched(list):
    """A list that tells when somebody tries to change it, even for a while."""

    def refuse(self, *given, **named):
        raise AssertionError("the list that was handed in is changed")

    append = extend = insert = pop = remove = clear = reverse = sort = refuse
    __setitem__ = __delitem__ = __iadd__ = __imul__ = refuse


class Layout(unittest.TestCase):
    def test_numbers_of_calls(self):
        self.assertEqual(answers([0, 8] + list(b"sorts a\n")), [2, 0, 0])
        self.assertEqual(answers([1, 3] + list(b"1=2")), [1, 0])
        self.assertEqual(answers([2, 0]), [1, -2])
        self.assertEqual(answers([3, 6] + list(b"refl 1")), [2, 0, 1])
        self.assertEqual(answers([4, 6] + list(b"refl 1")), [1, 1])
        self.assertEqual(answers([5]), [1, -8])
        self.assertEqual(answers([6]), [1, 0])
        self.assertEqual(answers([7, 0]), [1, -2])
        self.assertEqual(answers([8, 0]), [1, -2])

    def test_empty_rows(self):
        self.assertEqual(answers([0, 0, 1, 0, 3, 0, 4, 0, 6]), [2, 1, 2, 1, -1, 2, 0, 0, 1, -1, 1, 0])

    def test_counts(self):
        calls = [1, 5] + list(b"1 = 2") + [4, 6] + list(b"rule 0") + [2, 0, 6, 7, 0, 8, 0]
        shown = [6, 5] + list(b"1 = 2")
        self.assertEqual(answers(calls), [1, 0, 1, 1] + shown + [8, 7] + list(b"rule 0\n") + shown + [2, 1, 0])

    def test_a_faults_answer_is_no_refusal(self):
        self.assertEqual(answers([0, 1, 97, 3, 1, 97]), [2, 1, 1, 2, 1, 1])

    def test_kinds(self):
        found = answers(list(MANY))
        self.assertIs(type(found), list)
        self.assertEqual({type(number) for number in found}, {int})

    def test_every_byte_in_every_text(self):
        for byte in range(256):
            for call in (0, 1, 3, 4):
                found = answers([call, 1, byte, 6])
                self.assertEqual(found[-2:], [1, 0], (call, byte))


class Kept(unittest.TestCase):
    def test_what_is_handed_in_stays(self):
        calls = Watched(MANY)
        found = answers(calls)
        self.assertEqual(list(calls), MANY)
        self.assertEqual(found, answers(list(MANY)))

    def test_what_is_given_back_is_another_list(self):
        calls = [6]
        found = answers(calls)
        found.append(7)
        self.assertEqual(calls, [6])
        self.assertEqual(answers(calls), [1, 0])

    def test_a_second_time(self):
        self.assertEqual(answers(list(MANY)), answers(list(MANY)))

    def test_nothing_is_kept(self):
        ask_new = laid_out(("show", 0), ("text",), ("drop",), ("line", "refl add(1,2)"), ("line", "refl zero"))
        before = answers(ask_new)
        answers(list(MANY))
        answers(laid_out(("signature", lines("sorts num", "zero num")), ("rule", "zero = 1"), ("line", "refl zero")))
        self.assertEqual(answers(ask_new), before)
        self.assertEqual(before, [1, -2, 1, 0, 1, -8, 1, 1, 1, -4])


class Long(unittest.TestCase):
    def test_longest_texts(self):
        for text in ("(" * 8000, "f(" * 4000, "1," * 4000, " " * 8000, "=" * 8000, "a" * 8000, "9" * 8000, "\n" * 8000, "?" * 8000):
            calls = laid_out(("rule", text), ("line", text), ("drop",))
            self.assertEqual(answers(calls), [1, -1, 1, -1, 1, -8])
            calls = laid_out(("signature", text), ("proof", text), ("drop",))
            self.assertEqual(answers(calls), [2, 1, 2 if text[0] == "\n" else 1, 2, 1, 1, 1, -8])

    def test_a_hundred_calls(self):
        term = "add(" + wide(99, "1000000000") + "," + wide(99, "1000000000") + ")"
        calls = laid_out(("line", "refl " + term), *[("says", 0)] * 99)
        says = list((term + " = " + term).encode())
        self.assertEqual(answers(calls), [1, 1] + ([len(says) + 1, len(says)] + says) * 99)

    def test_deepest_terms(self):
        start = ("signature", lines("sorts num", "f num num"))
        rule = ("rule", nested("f", 40, "?x") + "=" + nested("f", 40, "1"))
        found = answers(laid_out(start, rule, ("line", "rule 0 x=" + nested("f", 41, "1")), ("line", "rule 0 x=1"), ("show", 0)))
        self.assertEqual(found[:8], [2, 0, 1, 1, 0, 1, -6, 1])


if __name__ == "__main__":
    unittest.main()
