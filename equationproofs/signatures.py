"""Signatures: how their texts are read, the faults of these, and which terms fit."""

from equationproofs.terms import is_numeral, is_unknown
from equationproofs.texts import UNPRINTABLE, Fault, is_name, lines_of

MOST_SORTS = 8
MOST_TAKEN = 3
MOST_OPERATORS = 40


class Operator:
    def __init__(self, takes, gives):
        self.takes = takes
        self.gives = gives


class Signature:
    def __init__(self):
        self.sorts = []
        self.operators = {}


# The signature, or the text's fault.
def read_signature(text):
    lines = lines_of(text)
    if len(lines) == 0:
        return Fault(1, 2)
    signature = Signature()
    for number, line in enumerate(lines, start=1):
        ended = number < len(lines) or text.endswith("\n")
        reason = line_fault(signature, line) if ended else 1
        if reason != 0:
            return Fault(number, reason)
        take_line(signature, line.split(" "))
    return signature


# The reason of the fault of a line that is ended; 0 if it has none.
def line_fault(signature, line):
    if UNPRINTABLE in line:
        return 1
    words = line.split(" ")
    if not all([is_name(word) for word in words]):
        return 2
    # Only the first line is read while there are no sorts.
    return sorts_fault(words) if len(signature.sorts) == 0 else operator_fault(signature, words)


def sorts_fault(words):
    if words[0] != "sorts" or len(words) < 2:
        return 2
    if len(set(words[1:])) < len(words[1:]):
        return 3
    return 5 if len(words[1:]) > MOST_SORTS else 0


def operator_fault(signature, words):
    if len(words) < 2:
        return 2
    if words[0] in signature.operators:
        return 3
    if not all([word in signature.sorts for word in words[1:]]):
        return 4
    if len(words[1:-1]) > MOST_TAKEN or len(signature.operators) == MOST_OPERATORS:
        return 5
    return 0


def take_line(signature, words):
    if len(signature.sorts) == 0:
        signature.sorts = words[1:]
    else:
        signature.operators[words[0]] = Operator(words[1:-1], words[-1])


# Wanted is a sort of the signature. Unknowns is a dict from the names of the unknowns met so far to
# their sorts; those met here are put behind them, so that it keeps the order in which they first come.
def fits(signature, term, wanted, unknowns):
    if is_unknown(term):
        return unknowns.setdefault(term.token[1:], wanted) == wanted
    if is_numeral(term):
        return wanted == "num"
    operator = signature.operators.get(term.token)
    if operator is None or operator.gives != wanted or len(operator.takes) != len(term.parts):
        return False
    return all([fits(signature, part, taken, unknowns) for part, taken in zip(term.parts, operator.takes)])


# The sort with which a term without unknowns fits; None if there is none.
def sort_of(signature, term):
    for wanted in signature.sorts:
        if fits(signature, term, wanted, {}):
            return wanted
    return None
