import itertools
import unittest

from tests.calling import SORTED_SIGNATURE, ask, last, lines, nested, shown_behind, wide

SIGNATURE = lines("sorts num", "c num", "f num num", "g num num num", "h num num num num")
START = ("signature", SIGNATURE)


class Numerals(unittest.TestCase):
    def test_each_size(self):
        numerals = (0, 1, 2, 3, 4, 5, 6, 7, 1000000000, 999999999, -1, -2, -3, -4, -5, -6, -7, -999999999, -1000000000)
        wanted = {
            1: [0] * 19,
            2: [0, 1, 0, 1, 0, 1, 0, 1, 0, 1, 1, 0, 1, 0, 1, 0, 1, 1, 0],
            3: [0, 1, 2, 0, 1, 2, 0, 1, 1, 0, 2, 1, 0, 2, 1, 0, 2, 0, 2],
        }
        for size in (1, 2, 3):
            found = ask(("world", size), *[("value", str(numeral)) for numeral in numerals])
            self.assertEqual(found[1:], [[value] for value in wanted[size]])


class Operators(unittest.TestCase):
    def test_not_told(self):
        for size in (1, 2, 3):
            found = ask(START, ("world", size), *[("value", text) for text in ("c", "f(1)", "g(1,2)", "h(1,1,2)", "f(f(c))")])
            self.assertEqual(found[2:], [[0]] * 5)

    def test_the_place_in_the_table(self):
        for size in (1, 2, 3):
            for name, taken in (("c", 0), ("f", 1), ("g", 2), ("h", 3)):
                every = list(itertools.product(range(size), repeat=taken))
                for place in range(len(every)):
                    table = [1 if number == place and size > 1 else 0 for number in range(len(every))]
                    texts = [name + ("(" + ",".join(map(str, values)) + ")" if values else "") for values in every]
                    found = ask(START, ("world", size), ("table", name, table), *[("value", text) for text in texts])
                    self.assertEqual(found[3:], [[value] for value in table])

    def test_nested(self):
        tables = (("c", [2]), ("f", [1, 2, 0]), ("g", [0, 1, 2, 0, 2, 1, 1, 1, 0]))
        start = (START, ("world", 3), *[("table", name, table) for name, table in tables])
        wanted = {
            "f(c)": 0, "f(f(c))": 1, "f(f(f(c)))": 2, "g(c,f(c))": 1, "g(f(c),c)": 2, "g(g(1,1),f(1))": 0, "g(f(1),g(1,1))": 0,
            "g(-1,4)": 1, "f(g(f(7),f(-7)))": 2, "h(c,c,c)": 0, "f(h(c,c,c))": 1, "g(h(1,1,1),f(f(2)))": 1, "f( g ( c , f(c) ) )": 2,
            " c ": 2,
        }
        for text, value in wanted.items():
            self.assertEqual(last(*start, ("value", text)), [value], text)

    def test_as_reckoned_part_by_part(self):
        tables = {"c": [1], "f": [2, 0, 1], "g": [1, 2, 2, 0, 1, 0, 2, 1, 0], "h": [(7 * n * n + n) % 3 for n in range(27)]}
        leaves = ["c", "0", "1", "-1"]
        terms = [(leaf,) for leaf in leaves]
        terms += [("f", (leaf,)) for leaf in leaves] + [("g", (one,), (two,)) for one in leaves for two in leaves]
        terms += [("h", terms[n], terms[(5 * n + 3) % len(terms)], terms[(7 * n + 1) % len(terms)]) for n in range(len(terms))]

        def form(term):
            return term[0] + ("(" + ",".join(map(form, term[1:])) + ")" if term[1:] else "")

        def value(term):
            if term[0] not in tables:
                return int(term[0]) % 3
            place = 0
            for part in term[1:]:
                place = place * 3 + value(part)
            return tables[term[0]][place]

        start = (START, ("world", 3), *[("table", name, table) for name, table in tables.items()])
        found = ask(*start, *[("value", form(term)) for term in terms])
        self.assertEqual(found[6:], [[value(term)] for term in terms])

    def test_every_sort(self):
        start = (("signature", lines("sorts a b", "c a", "d b", "f a b", "g b a a")), ("world", 3), ("table", "c", [2]), ("table", "d", [1]),
                 ("table", "f", [0, 0, 1]), ("table", "g", [0, 0, 0, 0, 0, 2, 0, 0, 0]))
        found = ask(*start, ("value", "c"), ("value", "d"), ("value", "f(c)"), ("value", "g(d,c)"), ("value", "g(f(c),g(d,c))"))
        self.assertEqual(found[6:], [[2], [1], [1], [2], [2]])


class Refused(unittest.TestCase):
    def check(self, refusal, *texts):
        for text in texts:
            self.assertEqual(last(START, ("value", text)), [refusal], text)

    def test_no_term(self):
        self.check(-1, "", " ", "01", "-0", "f(", "f()", "f(1))", "f(1) 2", "1=1", "F(1)", "?", "??x", "1\n", "\t1", "1000000001", "f(1;)")
        self.check(-1, "-1000000001", "abcdefghij123", "9" * 8000, "\xff", "g(1,,2)", "(1)", "1(2)")

    def test_not_in_bounds(self):
        self.check(-5, wide(201).replace("add", "g"), "f(f(" + wide(199).replace("add", "g") + "))", nested("f", 41, "1"))

    def test_unknowns(self):
        self.check(-3, "?x", "f(?x)", "g(1,?y)", "h(1,f(f(?c)),2)", "none(?x)")

    def test_does_not_fit(self):
        self.check(-3, "none", "add(1,2)", "f", "f(1,2)", "c(1)", "g(1)", "h(1,2)", "f(none)", "g(1,f(c,c))", "num")
        for text in ("neg(nil)", "head(1)", "cons(nil,1)", "cons(1,2)", "three(1,nil,nil)", "neg(head(head(nil)))"):
            self.assertEqual(last(("signature", SORTED_SIGNATURE), ("value", text)), [-3], text)

    def test_numerals_without_the_sort_num(self):
        start = ("signature", lines("sorts a", "c a", "f a a"))
        self.assertEqual(ask(start, ("value", "1"), ("value", "f(1)"), ("value", "f(c)"))[1:], [[-3], [-3], [0]])

    def test_open_signs(self):
        # 39 open ( make the depth 40; 40 are read still, and 41 are not.
        self.check(0, nested("f", 40, "1"))
        self.check(-5, nested("f", 41, "1"))
        self.check(-1, nested("f", 42, "1"))

    def test_nodes(self):
        self.check(0, "f(" + wide(199).replace("add", "g") + ")", wide(199).replace("add", "g"))
        self.check(-5, wide(201).replace("add", "g"))
        self.check(-5, wide(1001).replace("add", "g"))

    def test_which_one_counts(self):
        self.check(-1, nested("none", 42, "?x"), wide(201) + ")", "none(?x", wide(201) + " 01", nested("f", 41, "01"))
        self.check(-5, nested("none", 41, "1"), nested("f", 41, "?x"), wide(201), wide(201, "?x"), nested("none", 41, "?x"))

    def test_greatest_terms(self):
        start = (START, ("world", 3), ("table", "f", [1, 2, 0]), ("table", "g", [0, 1, 2, 1, 2, 0, 2, 0, 1]))
        self.assertEqual(last(*start, ("value", nested("f", 40, "1"))), [(1 + 39) % 3])
        self.assertEqual(last(*start, ("value", "f(" + wide(199, "2").replace("add", "g") + ")")), [(2 * 100 + 1) % 3])

    def test_refusals_change_nothing(self):
        before = shown_behind()[1]
        for text, refusal in (("", -1), ("neg(", -1), (nested("neg", 41, "1"), -5), ("neg(?x)", -3), ("neg(nil)", -3), ("none", -3)):
            self.assertEqual(shown_behind(("value", text)), ([[refusal]], before))

    def test_changes_nothing(self):
        self.assertEqual(shown_behind(("value", "neg(neg(zero))"), ("value", "nil")), ([[2], [0]], shown_behind()[1]))


if __name__ == "__main__":
    unittest.main()
