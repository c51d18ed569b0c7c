import itertools
import unittest

from tests.calling import SORTED_SIGNATURE, ask, last, lines, nested, text_answer, wide


class Refused(unittest.TestCase):
    def check(self, refusal, *texts):
        for text in texts:
            found = ask(("rule", "1 = ?x"), ("rule", text), ("show", 0), ("show", 1), ("rule", "2 = ?x"))
            self.assertEqual(found, [[0], [refusal], text_answer("1 = ?x"), [-2], [1]], text)

    def test_not_just_one_sign(self):
        self.check(-1, "", "1", "add(?x,?y)", "1 = 1 = 1", "1 == 1", "= 1 =", "1 =\n= 1")

    def test_no_term(self):
        self.check(-1, "=", "1 =", "= 1", " = ", "1 = add(1", "add( = 1", "1 = 01", "-0 = 0", "1 = 1\n", "1 =\t1")

    def test_not_in_bounds(self):
        self.check(-5, wide(201) + " = 1", "1 = " + wide(201), nested("f", 41, "1") + " = 1", "1 = " + nested("f", 41, "?x"))

    def test_does_not_fit(self):
        self.check(-3, "zero = 1", "add(1) = 1", "add = 1", "add(1,2,3) = 1", "1 = add(1,f(2))", "1 = zero")

    def test_first_of_the_refusals(self):
        self.check(-1, wide(201) + " = 01", "f(1 = " + nested("f", 41, "1"))
        self.check(-5, wide(201) + " = zero", "zero = " + nested("f", 41, "1"))

    def test_forty_rules(self):
        calls = [("rule", f"{number} = ?x") for number in range(40)]
        behind = [("rule", "1 = ?x"), ("show", 39), ("show", 40), ("rule", "1"), ("rule", "zero = 1"), ("rule", wide(201) + "=1")]
        found = ask(*calls, *behind)
        self.assertEqual(found[:40], [[number] for number in range(40)])
        self.assertEqual(found[40:], [[-6], text_answer("39 = ?x"), [-2], [-1], [-3], [-5]])


class Taken(unittest.TestCase):
    def test_numbers_rise(self):
        self.assertEqual(ask(("rule", "1 = 1"), ("rule", "1 = 1"), ("rule", "2=add(?x,?x)")), [[0], [1], [2]])

    def test_bounds(self):
        calls = [("signature", lines("sorts num", "f num num", "add num num num"))]
        for text in (wide(199), "f(" + wide(199) + ")", nested("f", 40, "1")):
            calls.append(("rule", f"{text} = 1"))
            calls.append(("rule", f"1 = {text}"))
        self.assertEqual(ask(*calls)[1:], [[number] for number in range(6)])

    def test_two_hundred_and_one(self):
        start = ("signature", lines("sorts num", "f num num", "add num num num"))
        self.assertEqual(last(start, ("rule", "1=" + wide(201))), [-5])
        self.assertEqual(last(start, ("rule", "f(f(" + wide(199) + "))=1")), [-5])

    def test_rules_stay_behind_lines(self):
        self.assertEqual(ask(("line", "refl 1"), ("rule", "?x = ?x"), ("text",))[1:], [[0], text_answer("refl 1\n")])


class Show(unittest.TestCase):
    def test_form(self):
        found = ask(("rule", "  add( ?x,?y )=   add(?y , ?x)"), ("rule", "-5=?x"), ("show", 0), ("show", 1))
        self.assertEqual(found[2:], [text_answer("add(?x,?y) = add(?y,?x)"), text_answer("-5 = ?x")])

    def test_no_rule(self):
        for number in (-1, 1, 2, 40, -(10 ** 18), 10 ** 18, -2):
            found = ask(("show", number), ("rule", "1 = 2"), ("show", number), ("show", 0))
            self.assertEqual(found, [[-2], [0], [-2], text_answer("1 = 2")])
        self.assertEqual(ask(("show", 0)), [[-2]])

    def test_shows_change_nothing(self):
        found = ask(("rule", "1 = 2"), ("show", 0), ("show", 5), ("show", 0), ("rule", "1 = 2"))
        self.assertEqual(found, [[0], text_answer("1 = 2"), [-2], text_answer("1 = 2"), [1]])


class Fitting(unittest.TestCase):
    def check(self, fits, signature, *texts):
        for text in texts:
            self.assertEqual(last(("signature", signature), ("rule", text)), [0] if fits else [-3], text)

    def test_in_no_way(self):
        self.check(
            False, SORTED_SIGNATURE, "head(?x) = ?x", "cons(?x,?x) = nil", "cons(?x,?y) = ?x", "nil = zero", "1 = nil",
            "neg(nil) = 1", "cons(1,nil) = cons(nil,1)", "head(?x) = neg(?x)", "?x = head(?x)", "three(?x,?y,?y) = ?y",
            "cons(?x,?x) = ?y",
        )

    def test_in_one_way(self):
        self.check(
            True, SORTED_SIGNATURE, "head(?x) = ?y", "?y = head(?x)", "cons(?x,?y) = ?y", "1 = zero", "nil = nil", "?x = 1",
            "?x = nil", "three(?x,?y,?x) = cons(?x,?y)", "head(cons(?x,?y)) = ?x",
        )

    def test_in_several_ways(self):
        self.check(False, SORTED_SIGNATURE, "?x = ?y", "?x = ?x")
        self.check(True, "sorts num\n", "?x = ?y", "?x = ?x")
        self.check(True, "sorts other\n", "?x = ?y", "?x = ?x")

    def test_numerals_without_the_sort_num(self):
        self.check(False, lines("sorts int", "f int int"), "1 = 1", "?x = 1", "f(1) = ?x", "f(?x) = 1")
        self.check(True, lines("sorts int num", "f num int"), "1 = 1", "?x = 1", "f(1) = ?x")

    def test_as_all_ways_tried_one_by_one(self):
        signature = lines("sorts num b", "c b", "f num b", "g b num", "k b num b")
        takes = {"c": ([], "b"), "f": (["num"], "b"), "g": (["b"], "num"), "k": (["b", "num"], "b")}
        small = [("1",), ("?x",), ("?y",), ("c",)]
        terms = small + [(name, part) for name in "fg" for part in small]
        terms += [("k", one, two) for one in small for two in small]

        def form(term):
            return term[0] + ("(" + ",".join(map(form, term[1:])) + ")" if term[1:] else "")

        def sort(term, given):
            if term[0] == "1":
                return "num"
            if term[0][0] == "?":
                return given[term[0]]
            inner = [sort(part, given) for part in term[1:]]
            return takes[term[0]][1] if inner == takes[term[0]][0] else None

        def unknowns(term):
            return ({term[0]} if term[0][0] == "?" else set()).union(*map(unknowns, term[1:]))

        def ways(left, right):
            names = sorted(unknowns(left) | unknowns(right))
            count = 0
            for chosen in itertools.product(("num", "b"), repeat=len(names)):
                given = dict(zip(names, chosen))
                count += sort(left, given) is not None and sort(left, given) == sort(right, given)
            return count

        pairs = [(left, right) for left in terms for right in terms]
        counts = {ways(left, right) for left, right in pairs}
        self.assertEqual(counts, {0, 1, 2})
        for left, right in pairs:
            found = last(("signature", signature), ("rule", form(left) + "=" + form(right)))
            self.assertEqual(found, [0] if ways(left, right) == 1 else [-3], (left, right))


if __name__ == "__main__":
    unittest.main()
