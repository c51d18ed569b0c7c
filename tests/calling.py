"""Lays out calls as the interface tells, and takes the answers apart again."""

from equationproofs.checker import answers

NUMBERS = {
    "signature": 0, "rule": 1, "show": 2, "proof": 3, "line": 4, "drop": 5, "text": 6, "says": 7, "under": 8,
    "leans": 9, "part": 10, "find": 11, "world": 12, "table": 13, "value": 14, "holds": 15, "true": 16,
}


def as_bytes(text):
    return list(text.encode("latin-1")) if isinstance(text, str) else list(text)


def laid_out(*calls):
    numbers = []
    for call in calls:
        numbers.append(NUMBERS[call[0]])
        for argument in call[1:]:
            if isinstance(argument, int):
                numbers.append(argument)
            else:
                row = as_bytes(argument)
                numbers.append(len(row))
                numbers.extend(row)
    return numbers


def taken_apart(numbers):
    parts = []
    place = 0
    while place < len(numbers):
        end = place + 1 + numbers[place]
        parts.append(numbers[place + 1:end])
        place = end
    assert place == len(numbers)
    return parts


def ask(*calls):
    return taken_apart(answers(laid_out(*calls)))


def last(*calls):
    return ask(*calls)[-1]


def text_answer(text):
    return [len(text)] + as_bytes(text)


def lines(*texts):
    return "".join(text + "\n" for text in texts)


EXAMPLE_SIGNATURE = lines("sorts num", "zero num", "add num num num")
EXAMPLE = (
    ("signature", EXAMPLE_SIGNATURE),
    ("rule", "add(?x,?y) = add(?y,?x)"),
    ("rule", "add(?x,zero) = ?x"),
    ("proof", "rule 0 x=zero y=5\nrule 1 x=5\ntrans 0 1\n"),
)
# Several sorts, and operators that take 0 to 3 of them.
SORTED_SIGNATURE = lines(
    "sorts num list", "nil list", "cons num list list", "head list num", "three num list num list", "zero num", "neg num num",
)
# An object of which nothing is as it is in a new one, and calls that show all that it holds and leave it as it is.
CHANGED = (
    ("signature", SORTED_SIGNATURE), ("rule", "head(cons(?x,?y)) = ?x"), ("rule", "neg(neg(?x)) = ?x"), ("rule", "zero = ?x"),
    ("proof", lines("rule 1 x=5", "refl 7", "sym 0", "cong neg 2", "rule 2 x=4")),
    ("world", 3), ("table", "neg", [0, 2, 1]), ("table", "zero", [2]),
)
SHOWN = (
    ("show", 0), ("show", 1), ("show", 2), ("show", 3), ("text",), ("says", 3), ("under", 3), ("leans", 3), ("part", 3),
    ("find", "7=7"), ("value", "5"), ("value", "neg(zero)"), ("value", "head(nil)"), ("holds", 0), ("holds", 1), ("holds", 2),
    ("true",), ("line", "refl neg(none)"), ("table", "zero", [2]),
)


def shown_behind(*calls):
    """What the calls answer on the changed object, and what it shows then."""
    found = ask(*CHANGED, *calls, *SHOWN)
    return found[len(CHANGED):len(CHANGED) + len(calls)], found[len(CHANGED) + len(calls):]


def nested(name, depth, leaf):
    """A term of this depth: name(name(..(leaf)..))."""
    return (name + "(") * (depth - 1) + leaf + ")" * (depth - 1)


def wide(nodes, leaf="1"):
    """A term over add, of an odd number of nodes and a small depth."""
    if nodes == 1:
        return leaf
    left = (nodes - 1) // 2
    left -= 1 - left % 2
    return "add(" + wide(left, leaf) + "," + wide(nodes - 1 - left, leaf) + ")"
