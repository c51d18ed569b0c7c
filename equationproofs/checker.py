"""The checker: an object that holds a signature, rules and a proof, and the calls on it."""

from equationproofs.proofs import Line, lines_under, proof_text, read_line, read_proof
from equationproofs.rules import MOST_RULES, Rule, read_rule
from equationproofs.signatures import read_signature
from equationproofs.terms import equation_form
from equationproofs.texts import Fault, numbers_of, text_of

FIRST_SIGNATURE = "sorts num\nadd num num num\n"


class Checker:
    def __init__(self):
        self.signature = read_signature(FIRST_SIGNATURE)
        self.rules = []
        self.lines = []


def counted(numbers):
    return [len(numbers)] + numbers


def answer_signature(checker, text):
    signature = read_signature(text)
    if isinstance(signature, Fault):
        return [signature.line, signature.reason]
    checker.signature = signature
    checker.rules = []
    checker.lines = []
    return [0, len(signature.operators)]


def answer_rule(checker, text):
    rule = read_rule(text, checker.signature)
    if not isinstance(rule, Rule):
        return [rule]
    if len(checker.rules) == MOST_RULES:
        return [-6]
    checker.rules.append(rule)
    return [len(checker.rules) - 1]


def answer_show(checker, number):
    if not 0 <= number < len(checker.rules):
        return [-2]
    rule = checker.rules[number]
    return counted(numbers_of(equation_form(rule.left, rule.right)))


def answer_proof(checker, text):
    lines = read_proof(text, checker.signature, checker.rules)
    if isinstance(lines, Fault):
        return [lines.line, lines.reason]
    checker.lines = lines
    return [0, len(lines)]


def answer_line(checker, text):
    line = read_line(text, checker.lines, checker.signature, checker.rules)
    if not isinstance(line, Line):
        return [-line]
    checker.lines.append(line)
    return [len(checker.lines)]


def answer_drop(checker):
    if len(checker.lines) == 0:
        return [-8]
    checker.lines.pop()
    return [len(checker.lines)]


def answer_text(checker):
    return counted(numbers_of(proof_text(checker.lines)))


def answer_says(checker, number):
    if not 0 <= number < len(checker.lines):
        return [-2]
    line = checker.lines[number]
    return counted(numbers_of(equation_form(line.left, line.right)))


def answer_under(checker, number):
    if not 0 <= number < len(checker.lines):
        return [-2]
    return counted(lines_under(checker.lines, number))


TEXT_CALLS = {0: answer_signature, 1: answer_rule, 3: answer_proof, 4: answer_line}
NUMBER_CALLS = {2: answer_show, 7: answer_says, 8: answer_under}
BARE_CALLS = {5: answer_drop, 6: answer_text}


def answers(calls):
    checker = Checker()
    given = []
    place = 0
    while place < len(calls):
        call = calls[place]
        if call in TEXT_CALLS:
            begin = place + 2
            place = begin + calls[place + 1]
            answer = TEXT_CALLS[call](checker, text_of(calls[begin:place]))
        elif call in NUMBER_CALLS:
            answer = NUMBER_CALLS[call](checker, calls[place + 1])
            place = place + 2
        else:
            answer = BARE_CALLS[call](checker)
            place = place + 1
        given.append(len(answer))
        given.extend(answer)
    return given
