"""Lists of calls of all kinds on one object, where later calls show what earlier ones did."""

import unittest

from tests.calling import NUMBERS, SORTED_SIGNATURE, ask, lines, shown_behind, text_answer

# Each call stands beside what it answers.
GROUP = (
    (("value", "add(3,-1)"), [0]),
    (("table", "add", [1, 0, 0, 1]), [1]),
    (("value", "add(3,-1)"), [1]),
    (("signature", lines("sorts num", "e num", "m num num num", "i num num")), [0, 3]),
    (("table", "add", [0, 1, 1, 0]), [-3]),
    (("true",), [0, 0]),
    (("rule", "m(m(?x,?y),?z) = m(?x,m(?y,?z))"), [0]),
    (("rule", "m(e,?x) = ?x"), [1]),
    (("rule", "m(i(?x),?x) = e"), [2]),
    (("rule", "m(?x) = e"), [-3]),
    (("show", 2), text_answer("m(i(?x),?x) = e")),
    (("show", 3), [-2]),
    (("line", "rule 0 x=i(4) y=4 z=9"), [1]),
    (("line", "rule 2 x=4"), [2]),
    (("line", "refl 9"), [3]),
    (("line", "refl 8"), [4]),
    (("line", "trans 0 1"), [-5]),
    (("line", "cong m 1 2"), [5]),
    (("line", "rule 1 x=9"), [6]),
    (("line", "sym 0"), [7]),
    (("line", "trans 4 5"), [8]),
    (("line", "trans 6 7"), [9]),
    (("says", 8), text_answer("m(i(4),m(4,9)) = 9")),
    (("under", 8), [8, 0, 1, 2, 4, 5, 6, 7, 8]),
    (("leans", 8), [3, 0, 1, 2]),
    (("leans", 7), [2, 1, 2]),
    (("leans", 3), [0]),
    (("find", "9 = 9"), [1, 2]),
    (("find", "m(i(4), m(4, 9)) = 9"), [1, 8]),
    (("find", "9 = m(i(4),m(4,9))"), [0]),
    (("part", 7), text_answer(lines("rule 2 x=4", "refl 9", "cong m 0 1", "rule 1 x=9", "trans 2 3"))),
    (("holds", 0), [1, 0]),
    (("holds", 1), [0, 1, 1]),
    (("holds", 2), [1, 0]),
    (("true",), [2, 6]),
    (("world", 3), [0]),
    (("true",), [2, 9]),
    (("table", "m", [0, 1, 2, 1, 2, 0, 2, 0, 1]), [1]),
    (("true",), [2, 5]),
    (("holds", 2), [0, 1, 1]),
    (("table", "i", [0, 2, 1]), [2]),
    (("true",), [3, 9]),
    (("table", "e", [0]), [3]),
    (("value", "m(i(4),m(4,8))"), [2]),
    (("value", "m(i(4),m(4,?x))"), [-3]),
    (("table", "e", [1]), [3]),
    (("holds", 1), [0, 1, 0]),
    (("true",), [1, 6]),
    (("drop",), [8]),
    (("says", 8), [-2]),
    (("under", 8), [-2]),
    (("leans", 8), [-2]),
    (("part", 8), [-2]),
    (("find", "m(i(4),m(4,9)) = 9"), [0]),
    (("proof", lines("rule 1 x=2", "sym 0", "trans 1 1")), [3, 5]),
    (("true",), [1, 5]),
    (("proof", lines("rule 1 x=2", "sym 0", "trans 1 0")), [0, 3]),
    (("text",), text_answer(lines("rule 1 x=2", "sym 0", "trans 1 0"))),
    (("true",), [1, 1]),
    (("signature", "sorts num\nm num\nm num\n"), [3, 3]),
    (("true",), [1, 1]),
    (("signature", "sorts num\nm num\n"), [0, 1]),
    (("true",), [0, 0]),
    (("holds", 0), [-2]),
    (("value", "m"), [0]),
    (("value", "8"), [2]),
    (("table", "m", [2]), [1]),
    (("world", 4), [-2]),
    (("value", "m"), [2]),
    (("world", 1), [0]),
    (("value", "m"), [0]),
    (("table", "m", [1]), [-4]),
    (("drop",), [-8]),
)
# One refused call of each kind that has refusals, beside its refusal.
REFUSED = (
    (("rule", "zero"), -1), (("rule", "zero = nil"), -3), (("show", 3), -2), (("line", "sym 5"), -2), (("line", "refl"), -1),
    (("says", 5), -2), (("under", 5), -2), (("leans", 5), -2), (("part", -1), -2), (("find", "zero"), -1), (("world", 0), -2),
    (("table", "none", [0]), -3), (("table", "nil", [3]), -4), (("value", "neg("), -1), (("value", "?x"), -3), (("holds", 3), -2),
)


class Together(unittest.TestCase):
    def test_all_kinds(self):
        self.assertEqual({call[0] for call, answer in GROUP}, set(NUMBERS))

    def test_one_after_the_other(self):
        self.assertLessEqual(len(GROUP), 100)
        for count in range(1, len(GROUP) + 1):
            found = ask(*[call for call, answer in GROUP[:count]])
            self.assertEqual(found[-1], GROUP[count - 1][1], (count - 1, GROUP[count - 1][0]))
        self.assertEqual(found, [answer for call, answer in GROUP])

    def test_refused_calls_between_all_others(self):
        before = shown_behind()[1]
        found = shown_behind(*[call for call, refusal in REFUSED])
        self.assertEqual(found, ([[refusal] for call, refusal in REFUSED], before))

    def test_faults_between_all_others(self):
        before = shown_behind()[1]
        found = shown_behind(("signature", SORTED_SIGNATURE + "nil num\n"), ("proof", "refl nil\nsym 1\n"))
        self.assertEqual(found, ([[8, 3], [2, 2]], before))

    def test_calls_that_only_show(self):
        before = shown_behind()[1]
        for call in (("show", 0), ("text",), ("says", 0), ("under", 3), ("leans", 3), ("part", 3), ("find", "1=1"), ("value", "zero"),
                     ("holds", 1), ("true",)):
            self.assertEqual(shown_behind(call, call)[1], before, call)

    def test_answers_of_text_and_part_go_back_in(self):
        calls = [call for call, answer in GROUP[:22]]
        whole = ask(*calls, ("text",), ("true",), ("part", 8), ("leans", 8))[-4:]
        again = ask(*calls, ("proof", whole[0][1:]), ("text",), ("true",), ("proof", whole[2][1:]), ("leans", 7), ("part", 7))[-6:]
        self.assertEqual(again, [[0, 9], whole[0], whole[1], [0, 8], whole[3], whole[2]])


if __name__ == "__main__":
    unittest.main()
