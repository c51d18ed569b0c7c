"""Proofs: how their lines are read behind others, the faults of these, and what is under a line."""

from equationproofs.signatures import fits, sort_of
from equationproofs.terms import Term, in_bounds, read_term, replaced
from equationproofs.texts import Fault, decimal, is_name, lines_of

MOST_LINES = 300


# Told is the numbers of the lines that this one tells; gives is the sort of both sides.
class Line:
    def __init__(self, words, told, left, right, gives):
        self.words = words
        self.told = told
        self.left = left
        self.right = right
        self.gives = gives


# None for a word that is not the form of a term without unknowns.
# A word has no blanks, so a word that is read as a term is this term's form.
def read_form(word):
    return None if "?" in word else read_term(word)


# Each reader below gives the line, or the reason of its fault as far as the reason 5.
def read_refl(words, lines, signature, rules):
    term = read_form(words[1]) if len(words) == 2 else None
    if term is None:
        return 1
    gives = sort_of(signature, term)
    return 4 if gives is None else Line(words, [], term, term, gives)


# The reason 1 or 2 if words are not all numbers of earlier lines, else 0.
def numbers_fault(words, lines):
    told = [decimal(word) for word in words]
    if any([number is None for number in told]):
        return 1
    return 2 if any([number >= len(lines) for number in told]) else 0


def read_sym(words, lines, signature, rules):
    reason = numbers_fault(words[1:], lines) if len(words) == 2 else 1
    if reason != 0:
        return reason
    told = [decimal(word) for word in words[1:]]
    turned = lines[told[0]]
    return Line(words, told, turned.right, turned.left, turned.gives)


def read_trans(words, lines, signature, rules):
    reason = numbers_fault(words[1:], lines) if len(words) == 3 else 1
    if reason != 0:
        return reason
    told = [decimal(word) for word in words[1:]]
    first = lines[told[0]]
    second = lines[told[1]]
    if first.right.form != second.left.form:
        return 5
    return Line(words, told, first.left, second.right, first.gives)


def read_cong(words, lines, signature, rules):
    if len(words) < 2 or not is_name(words[1]):
        return 1
    reason = numbers_fault(words[2:], lines)
    if reason != 0:
        return reason
    operator = signature.operators.get(words[1])
    if operator is None:
        return 3
    told = [decimal(word) for word in words[2:]]
    parts = [lines[number] for number in told]
    if [part.gives for part in parts] != operator.takes:
        return 5
    left = Term(words[1], [part.left for part in parts])
    right = Term(words[1], [part.right for part in parts])
    return Line(words, told, left, right, operator.gives)


# A name and the term behind its = ; an empty list for a word that is not so written.
def read_pair(word):
    halves = word.partition("=")
    term = read_form(halves[2])
    return [] if term is None or not is_name(halves[0]) else [halves[0], term]


def read_rule_line(words, lines, signature, rules):
    number = decimal(words[1]) if len(words) >= 2 else None
    pairs = [read_pair(word) for word in words[2:]]
    if number is None or any([len(pair) == 0 for pair in pairs]):
        return 1
    if number >= len(rules):
        return 3
    rule = rules[number]
    if [pair[0] for pair in pairs] != list(rule.unknowns):
        return 4
    if not all([fits(signature, pair[1], rule.unknowns[pair[0]], {}) for pair in pairs]):
        return 4
    terms = dict([(pair[0], pair[1]) for pair in pairs])
    return Line(words, [], replaced(rule.left, terms), replaced(rule.right, terms), rule.gives)


READERS = {"refl": read_refl, "sym": read_sym, "trans": read_trans, "cong": read_cong, "rule": read_rule_line}


# The line that the text tells behind the lines that stand, or the reason of its fault.
def read_line(text, lines, signature, rules):
    words = text.split(" ")
    if words[0] not in READERS:
        return 1
    line = READERS[words[0]](words, lines, signature, rules)
    if not isinstance(line, Line):
        return line
    if not in_bounds(line.left) or not in_bounds(line.right):
        return 6
    return 7 if len(lines) == MOST_LINES else line


# The lines of the proof, or the text's fault.
def read_proof(text, signature, rules):
    lines = []
    for piece in lines_of(text):
        line = read_line(piece, lines, signature, rules)
        if not isinstance(line, Line):
            return Fault(len(lines) + 1, line)
        lines.append(line)
    return lines


def proof_text(lines):
    return "".join([" ".join(line.words) + "\n" for line in lines])


# Every line tells earlier lines alone, so going back once meets all that are under it.
def lines_under(lines, number):
    under = {number: True}
    for place in range(number, -1, -1):
        if place in under:
            for told in lines[place].told:
                under[told] = True
    return sorted(list(under))


# The numbers of the rules that the lines under the line are made by.
def rules_under(lines, number):
    used = {}
    for place in lines_under(lines, number):
        words = lines[place].words
        if words[0] == "rule":
            used[decimal(words[1])] = True
    return sorted(list(used))


# The text of the proof that has just the lines under the line.
def part_text(lines, number):
    under = lines_under(lines, number)
    places = dict([(old, new) for new, old in enumerate(under)])
    return "".join([renumbered(lines[old], places) for old in under])


# Places is a dict from the numbers of the lines to their new ones. The numbers that a line tells are its last words.
def renumbered(line, places):
    ahead = len(line.words) - len(line.told)
    return " ".join(line.words[:ahead] + [str(places[told]) for told in line.told]) + "\n"


# The numbers of the lines that say that just these two terms are equal.
def lines_saying(lines, left, right):
    return [number for number, line in enumerate(lines) if is_said(line, left, right)]


def is_said(line, left, right):
    return line.left.form == left.form and line.right.form == right.form
