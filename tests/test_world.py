"""world and table."""

import unittest

from tests.calling import CHANGED, SORTED_SIGNATURE, ask, last, lines, shown_behind, text_answer

SIGNATURE = lines("sorts num", "c num", "f num num", "g num num num", "h num num num num")
START = ("signature", SIGNATURE)
VERY_LARGE = 10 ** 18


def size_shown(*calls):
    """The size of the world behind the calls: 5 has another value in each."""
    return {0: 1, 1: 2, 2: 3}[last(*calls, ("value", "5"))[0]]


class Size(unittest.TestCase):
    def test_taken(self):
        for size in (1, 2, 3):
            self.assertEqual(ask(("world", size)), [[0]])
            self.assertEqual(size_shown(("world", size)), size)
            self.assertEqual(size_shown(("world", 3), ("world", size)), size)

    def test_refused(self):
        before = shown_behind()[1]
        for size in (0, 4, 5, -1, -2, -3, 100, -VERY_LARGE, VERY_LARGE):
            self.assertEqual(shown_behind(("world", size)), ([[-2]], before), size)
            self.assertEqual(size_shown(("world", size)), 2)
            self.assertEqual(size_shown(("world", 1), ("world", size)), 1)

    def test_of_a_new_object(self):
        self.assertEqual(size_shown(), 2)
        self.assertEqual(ask(("value", "add(1,1)"), ("table", "add", [1, 1, 1, 1]), ("value", "add(1,1)")), [[0], [1], [1]])

    def test_no_table_is_told_behind_it(self):
        for size in (1, 2, 3):
            found = ask(START, ("table", "c", [1]), ("table", "f", [1, 1]), ("value", "c"), ("world", size), ("value", "c"),
                        ("value", "f(c)"), ("table", "c", [0]))
            self.assertEqual(found[1:], [[1], [2], [1], [0], [0], [0], [1]])

    def test_the_same_size_again(self):
        found = ask(START, ("world", 3), ("table", "c", [2]), ("value", "c"), ("world", 3), ("value", "c"), ("table", "f", [0, 0, 0]))
        self.assertEqual(found[2:], [[1], [2], [0], [0], [1]])

    def test_all_else_stays(self):
        asked = (("show", 0), ("show", 2), ("show", 3), ("text",), ("says", 3), ("under", 3), ("leans", 3), ("line", "refl neg(1)"))
        self.assertEqual(ask(*CHANGED, ("world", 1), *asked)[-8:], ask(*CHANGED, *asked)[-8:])


class Table(unittest.TestCase):
    def places(self, size, taken):
        return (1, size, size * size, size * size * size)[taken]

    def test_just_as_many_numbers(self):
        for size in (1, 2, 3):
            for taken, name in enumerate("cfgh"):
                for count in sorted({0, 1, 2, 3, 4, 8, 9, 26, 27, 28, 100, self.places(size, taken) - 1, self.places(size, taken) + 1}):
                    found = ask(START, ("world", size), ("table", name, [0] * count), ("table", "c", [0]))
                    right = count == self.places(size, taken)
                    told = [[1], [1 if name == "c" else 2]] if right else [[-4], [1]]
                    self.assertEqual(found[2:], told, (size, name, count))

    def test_numbers_in_each_place(self):
        for size in (1, 2, 3):
            for taken, name in enumerate("cfgh"):
                places = self.places(size, taken)
                for place in range(places):
                    for number in (0, size - 1, size, size + 1, -1, -2, VERY_LARGE, -VERY_LARGE):
                        table = [size - 1] * places
                        table[place] = number
                        wanted = [1] if 0 <= number < size else [-4]
                        self.assertEqual(last(START, ("world", size), ("table", name, table)), wanted, (size, name, table))

    def test_no_operator(self):
        for name in ("", "none", "cc", "num", "C", "c ", " c", "c\n", "?c", "1", "-1", "f(c)", "\xe3", "a" * 8000, [0], [99, 0], [255]):
            self.assertEqual(ask(START, ("table", name, [0]), ("table", "c", [0]))[1:], [[-3], [1]], name)

    def test_an_operator_of_another_signature(self):
        found = ask(("table", "c", [0]), ("table", "add", [0] * 4), START, ("table", "c", [0]), ("table", "add", [0] * 4))
        self.assertEqual(found, [[-3], [1], [0, 4], [1], [-3]])

    def test_refusals_in_their_order(self):
        for table in ([], [0], [7], [-1], [0, 0], [0] * 100):
            self.assertEqual(last(START, ("table", "none", table)), [-3])

    def test_refusals_change_nothing(self):
        before = shown_behind()[1]
        for name, table, refusal in (
            ("none", [0], -3), ("zero", [], -4), ("zero", [3], -4), ("zero", [0, 0], -4), ("neg", [1, 1], -4), ("neg", [0, 1, 3], -4),
            ("neg", [0, 1, -1], -4), ("neg", [0, 1, 2, 0], -4), ("head", [1, 1], -4), ("cons", [1] * 8, -4), ("three", [1] * 26 + [3], -4),
        ):
            self.assertEqual(shown_behind(("table", name, table)), ([[refusal]], before))

    def test_told_a_second_time(self):
        found = ask(START, ("table", "f", [1, 0]), ("value", "f(0)"), ("table", "c", [1]), ("table", "f", [0, 1]), ("value", "f(0)"),
                    ("value", "f(1)"), ("value", "c"), ("table", "f", [0, 1]), ("table", "g", [0, 0, 0, 1]))
        self.assertEqual(found[1:], [[1], [1], [2], [2], [0], [1], [1], [2], [3]])

    def test_a_table_all_0_is_told(self):
        self.assertEqual(ask(START, ("table", "f", [0, 0]), ("table", "g", [0] * 4))[1:], [[1], [2]])

    def test_what_was_asked_before_does_not_stay(self):
        found = ask(START, ("rule", "g(?x,?y) = f(?x)"), ("line", "rule 0 x=1 y=c"), ("value", "g(1,c)"), ("holds", 0), ("true",),
                    ("table", "g", [0, 0, 1, 1]), ("value", "g(1,c)"), ("holds", 0), ("true",),
                    ("table", "f", [0, 1]), ("value", "f(g(1,c))"), ("holds", 0), ("true",),
                    ("table", "f", [0, 0]), ("value", "f(g(1,c))"), ("holds", 0), ("true",))
        self.assertEqual(found[3:], [
            [0], [1, 0], [1, 1], [1], [1], [0, 2, 1, 0], [0, 0], [2], [1], [1, 0], [1, 1], [2], [0], [0, 2, 1, 0], [0, 0],
        ])

    def test_sorts_do_not_count(self):
        found = ask(("signature", SORTED_SIGNATURE), ("world", 3), ("table", "three", [2] * 27), ("value", "three(1,nil,2)"),
                    ("table", "nil", [1]), ("table", "cons", [0, 0, 0, 0, 0, 0, 0, 2, 0]), ("value", "cons(2,nil)"))
        self.assertEqual(found[2:], [[1], [2], [2], [3], [2]])

    def test_forty_tables(self):
        names = [f"f{number}" for number in range(40)]
        start = ("signature", lines("sorts a", *[f"{name} a" for name in names]))
        found = ask(start, *[("table", name, [1]) for name in names], *[("table", name, [0]) for name in names])
        self.assertEqual(found[1:], [[number] for number in range(1, 41)] + [[40]] * 40)

    def test_behind_signature(self):
        found = ask(START, ("world", 3), ("table", "c", [2]), ("table", "f", [1, 1, 1]), START, ("value", "c"), ("value", "f(0)"),
                    ("value", "5"), ("table", "f", [1, 1, 1]), ("value", "f(0)"), ("table", "g", [0] * 9))
        self.assertEqual(found[2:], [[1], [2], [0, 4], [0], [0], [2], [1], [1], [2]])

    def test_behind_a_signature_with_a_fault(self):
        before = shown_behind()[1]
        for text, fault in (("", [1, 2]), ("sorts num", [1, 1]), (SIGNATURE + "c num\n", [6, 3]), (SIGNATURE + "d a\n", [6, 4])):
            self.assertEqual(shown_behind(("signature", text)), ([fault], before))
            found = ask(START, ("table", "c", [1]), ("signature", text), ("table", "f", [1, 0]), ("value", "f(c)"), ("value", "c"))
            self.assertEqual(found[1:], [[1], fault, [2], [0], [1]])

    def test_all_else_stays(self):
        asked = (("show", 0), ("show", 3), ("text",), ("says", 3), ("leans", 3), ("value", "5"), ("value", "neg(zero)"))
        self.assertEqual(ask(*CHANGED, ("table", "nil", [2]), *asked)[-8:], [[3]] + ask(*CHANGED, *asked)[-7:])

    def test_rules_lines_and_drops_leave_the_tables(self):
        found = ask(START, ("table", "c", [1]), ("rule", "c = 0"), ("line", "rule 0"), ("drop",), ("proof", "refl c"), ("value", "c"),
                    ("table", "f", [0, 0]), ("text",))
        self.assertEqual(found[-3:], [[1], [2], text_answer("refl c\n")])


if __name__ == "__main__":
    unittest.main()
