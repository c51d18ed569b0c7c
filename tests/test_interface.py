import unittest

from equationproofs.checker import answers
from tests.calling import EXAMPLE, EXAMPLE_SIGNATURE, NUMBERS, laid_out, lines, nested, wide

MANY = laid_out(
    *EXAMPLE, ("show", 0), ("show", 9), ("line", "sym 2"), ("line", "bad"), ("text",), ("drop",), ("says", 2), ("under", 2),
    ("signature", "sorts a"), ("proof", "sym 0"), ("says", -1), ("leans", 2), ("leans", 9), ("part", 2), ("part", -1),
    ("find", "5=5"), ("find", "5"), ("true",), ("world", 3), ("world", 4), ("table", "add", [0, 1, 2, 1, 2, 0, 2, 0, 1]),
    ("table", "zero", [3]), ("table", "none", []), ("value", "add(zero,5)"), ("value", "?x"), ("holds", 0), ("holds", 1),
    ("holds", 2), ("true",), ("signature", EXAMPLE_SIGNATURE), ("true",), ("table", "zero", [2]),
)


class Watched(list):
    """A list that tells when somebody tries to change it, even for a while."""

    def refuse(self, *given, **named):
        raise AssertionError("the list that was handed in is changed")

    append = extend = insert = pop = remove = clear = reverse = sort = refuse
    __setitem__ = __delitem__ = __iadd__ = __imul__ = refuse


class Layout(unittest.TestCase):
    def test_numbers_of_calls(self):
        self.assertEqual(answers([0, 8] + list(b"sorts a\n")), [2, 0, 0])
        self.assertEqual(answers([1, 3] + list(b"1=2")), [1, 0])
        self.assertEqual(answers([2, 0]), [1, -2])
        self.assertEqual(answers([3, 6] + list(b"refl 1")), [2, 0, 1])
        self.assertEqual(answers([4, 6] + list(b"refl 1")), [1, 1])
        self.assertEqual(answers([5]), [1, -8])
        self.assertEqual(answers([6]), [1, 0])
        self.assertEqual(answers([7, 0]), [1, -2])
        self.assertEqual(answers([8, 0]), [1, -2])
        self.assertEqual(answers([9, 0]), [1, -2])
        self.assertEqual(answers([10, 0]), [1, -2])
        self.assertEqual(answers([11, 3] + list(b"1=2")), [1, 0])
        self.assertEqual(answers([12, 3]), [1, 0])
        self.assertEqual(answers([13, 3] + list(b"add") + [4, 0, 1, 1, 0]), [1, 1])
        self.assertEqual(answers([14, 1, 51]), [1, 1])
        self.assertEqual(answers([15, 0]), [1, -2])
        self.assertEqual(answers([16]), [2, 0, 0])

    def test_each_call_ends_where_the_next_begins(self):
        for call in sorted(NUMBERS.values()):
            rows = {13: [3] + list(b"add") + [2, 0, 1]}
            whole = [call] + (rows[call] if call == 13 else [1, 49] if call in (0, 1, 3, 4, 11, 14) else [0] if call in (
                2, 7, 8, 9, 10, 12, 15) else [])
            self.assertEqual(answers(whole + [6, 5]), answers(whole) + [1, 0, 1, -8], call)

    def test_many_is_of_all_kinds(self):
        place = 0
        met = set()
        while place < len(MANY):
            met.add(MANY[place])
            rows = 2 if MANY[place] == 13 else 1 if MANY[place] in (0, 1, 3, 4, 11, 14) else 0
            place += 2 if MANY[place] in (2, 7, 8, 9, 10, 12, 15) else 1
            for _ in range(rows):
                place += 1 + MANY[place]
        self.assertEqual(met, set(range(17)))

    def test_empty_rows(self):
        self.assertEqual(answers([0, 0, 1, 0, 3, 0, 4, 0, 6]), [2, 1, 2, 1, -1, 2, 0, 0, 1, -1, 1, 0])
        self.assertEqual(answers([11, 0, 13, 0, 0, 14, 0, 6]), [1, -1, 1, -3, 1, -1, 1, 0])
        self.assertEqual(answers([13, 3] + list(b"add") + [0, 13, 0, 1, 7, 6]), [1, -4, 1, -3, 1, 0])

    def test_counts(self):
        calls = [1, 5] + list(b"1 = 2") + [4, 6] + list(b"rule 0") + [2, 0, 6, 7, 0, 8, 0]
        shown = [6, 5] + list(b"1 = 2")
        self.assertEqual(answers(calls), [1, 0, 1, 1] + shown + [8, 7] + list(b"rule 0\n") + shown + [2, 1, 0])
        calls = [1, 5] + list(b"1 = 2") + [4, 6] + list(b"rule 0") + [9, 0, 10, 0, 11, 3] + list(b"1=2") + [15, 0, 16, 12, 1, 15, 0]
        part = [8, 7] + list(b"rule 0\n")
        self.assertEqual(answers(calls), [1, 0, 1, 1, 2, 1, 0] + part + [2, 1, 0, 2, 0, 0, 2, 0, 0, 1, 0, 2, 1, 0])

    def test_a_faults_answer_is_no_refusal(self):
        self.assertEqual(answers([0, 1, 97, 3, 1, 97]), [2, 1, 1, 2, 1, 1])

    def test_kinds(self):
        found = answers(list(MANY))
        self.assertIs(type(found), list)
        self.assertEqual({type(number) for number in found}, {int})

    def test_every_byte_in_every_text(self):
        for byte in range(256):
            for call in (0, 1, 3, 4, 11, 14):
                found = answers([call, 1, byte, 6])
                self.assertEqual(found[-2:], [1, 0], (call, byte))
            self.assertEqual(answers([13, 1, byte, 1, 0, 6]), [1, -3, 1, 0], byte)
            self.assertEqual(answers([14, 1, byte]), [1, (byte - 48) % 2 if 48 <= byte <= 57 else -3 if 97 <= byte <= 122 else -1])


class Kept(unittest.TestCase):
    def test_what_is_handed_in_stays(self):
        calls = Watched(MANY)
        found = answers(calls)
        self.assertEqual(list(calls), MANY)
        self.assertEqual(found, answers(list(MANY)))

    def test_what_is_given_back_is_another_list(self):
        calls = [6]
        found = answers(calls)
        found.append(7)
        self.assertEqual(calls, [6])
        self.assertEqual(answers(calls), [1, 0])

    def test_a_second_time(self):
        self.assertEqual(answers(list(MANY)), answers(list(MANY)))

    def test_nothing_is_kept(self):
        ask_new = laid_out(("show", 0), ("text",), ("drop",), ("line", "refl add(1,2)"), ("line", "refl zero"))
        before = answers(ask_new)
        answers(list(MANY))
        answers(laid_out(("signature", lines("sorts num", "zero num")), ("rule", "zero = 1"), ("line", "refl zero")))
        self.assertEqual(answers(ask_new), before)
        self.assertEqual(before, [1, -2, 1, 0, 1, -8, 1, 1, 1, -4])

    def test_no_world_is_kept(self):
        ask_new = laid_out(("value", "5"), ("value", "add(1,1)"), ("rule", "add(?x,?y) = 0"), ("holds", 0), ("true",))
        before = answers(ask_new)
        for size, table in ((2, [0, 1, 1, 1]), (3, [1] * 9), (1, [0])):
            told = laid_out(("world", size), ("table", "add", table))
            answers(told + ask_new)
            self.assertEqual(answers(ask_new), before)
        self.assertEqual(before, [1, 1, 1, 0, 1, 0, 2, 1, 0, 2, 1, 0])


class Long(unittest.TestCase):
    def test_longest_texts(self):
        for text in ("(" * 8000, "f(" * 4000, "1," * 4000, " " * 8000, "=" * 8000, "a" * 8000, "9" * 8000, "\n" * 8000, "?" * 8000):
            calls = laid_out(("rule", text), ("line", text), ("drop",))
            self.assertEqual(answers(calls), [1, -1, 1, -1, 1, -8])
            calls = laid_out(("signature", text), ("proof", text), ("drop",))
            self.assertEqual(answers(calls), [2, 1, 2 if text[0] == "\n" else 1, 2, 1, 1, 1, -8])
            calls = laid_out(("find", text), ("value", text), ("drop",))
            self.assertEqual(answers(calls), [1, -1, 1, -1, 1, -8])
            self.assertEqual(answers(laid_out(("table", text, [0] * 100), ("drop",))), [1, -3, 1, -8])

    def test_a_hundred_calls(self):
        term = "add(" + wide(99, "1000000000") + "," + wide(99, "1000000000") + ")"
        calls = laid_out(("line", "refl " + term), *[("says", 0)] * 99)
        says = list((term + " = " + term).encode())
        self.assertEqual(answers(calls), [1, 1] + ([len(says) + 1, len(says)] + says) * 99)

    def test_deepest_terms(self):
        start = ("signature", lines("sorts num", "f num num"))
        rule = ("rule", nested("f", 40, "?x") + "=" + nested("f", 40, "1"))
        found = answers(laid_out(start, rule, ("line", "rule 0 x=" + nested("f", 41, "1")), ("line", "rule 0 x=1"), ("show", 0)))
        self.assertEqual(found[:8], [2, 0, 1, 1, 0, 1, -6, 1])


if __name__ == "__main__":
    unittest.main()
