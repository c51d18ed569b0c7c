import unittest

from tests.calling import EXAMPLE, ask, last, text_answer


class TheDocumentsExample(unittest.TestCase):
    def test_all_is_taken(self):
        self.assertEqual(ask(*EXAMPLE), [[0, 2], [0], [1], [0, 3]])

    def test_says_at_last(self):
        self.assertEqual(last(*EXAMPLE, ("says", 2)), text_answer("add(zero,5) = 5"))

    def test_says_on_the_way(self):
        self.assertEqual(last(*EXAMPLE, ("says", 0)), text_answer("add(zero,5) = add(5,zero)"))
        self.assertEqual(last(*EXAMPLE, ("says", 1)), text_answer("add(5,zero) = 5"))

    def test_faults(self):
        self.assertEqual(ask(*EXAMPLE, ("line", "rule 1 x=?y"), ("line", "trans 1 0"))[-2:], [[-1], [-5]])
        self.assertEqual(last(*EXAMPLE, ("proof", "rule 0 x=zero y=5\nrule 1 x=?y\n")), [2, 1])
        self.assertEqual(last(*EXAMPLE, ("proof", "rule 0 x=zero y=5\nrule 1 x=5\ntrans 1 0\n")), [3, 5])

    def test_under(self):
        self.assertEqual(ask(*EXAMPLE, ("under", 0), ("under", 1), ("under", 2))[-3:], [[1, 0], [1, 1], [3, 0, 1, 2]])

    def test_leans(self):
        self.assertEqual(ask(*EXAMPLE, ("leans", 2), ("leans", 0), ("leans", 1))[-3:], [[2, 0, 1], [1, 0], [1, 1]])

    def test_part(self):
        found = ask(*EXAMPLE, ("part", 2), ("part", 1))[-2:]
        self.assertEqual(found, [text_answer("rule 0 x=zero y=5\nrule 1 x=5\ntrans 0 1\n"), text_answer("rule 1 x=5\n")])

    def test_find(self):
        self.assertEqual(last(*EXAMPLE, ("find", "add(zero,5) = 5")), [1, 2])

    def test_holds(self):
        self.assertEqual(ask(*EXAMPLE, ("holds", 0), ("holds", 1))[-2:], [[1, 0], [0, 1, 1]])

    def test_true(self):
        # With no table told only the line add(zero,5) = add(5,zero) has the same value on both sides.
        self.assertEqual(last(*EXAMPLE, ("true",)), [1, 1])

    def test_a_world_where_both_rules_hold(self):
        found = ask(*EXAMPLE, ("table", "add", [0, 1, 1, 0]), ("holds", 0), ("holds", 1), ("true",), ("value", "add(zero,5)"))
        self.assertEqual(found[4:], [[1], [1, 0], [1, 0], [2, 3], [1]])


if __name__ == "__main__":
    unittest.main()
