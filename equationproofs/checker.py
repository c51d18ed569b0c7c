"""The checker: an object that holds a signature, rules, a proof and a world, and the calls on it."""

from equationproofs.proofs import Line, lines_saying, lines_under, part_text, proof_text
from equationproofs.proofs import read_line, read_proof, rules_under
from equationproofs.rules import MOST_RULES, Rule, read_rule, read_sides
from equationproofs.signatures import read_signature, sort_of
from equationproofs.terms import equation_form, has_unknowns, in_bounds, read_term
from equationproofs.texts import Fault, numbers_of, text_of
from equationproofs.worlds import FIRST_SIZE, GREATEST_SIZE, World, failure_of, is_table, told_world, value_of

FIRST_SIGNATURE = "sorts num\nadd num num num\n"
# No rule of more unknowns is tried in a world.
MOST_UNKNOWNS = 6


class Checker:
    def __init__(self):
        self.signature = read_signature(FIRST_SIGNATURE)
        self.rules = []
        self.lines = []
        self.world = World(FIRST_SIZE, {})


def counted(numbers):
    return [len(numbers)] + numbers


def answer_signature(checker, text):
    signature = read_signature(text)
    if isinstance(signature, Fault):
        return [signature.line, signature.reason]
    checker.signature = signature
    checker.rules = []
    checker.lines = []
    checker.world = World(checker.world.size, {})
    return [0, len(signature.operators)]


def answer_rule(checker, text):
    rule = read_rule(text, checker.signature)
    if not isinstance(rule, Rule):
        return [rule]
    if len(checker.rules) == MOST_RULES:
        return [-6]
    checker.rules.append(rule)
    return [len(checker.rules) - 1]


def answer_show(checker, number):
    if not 0 <= number < len(checker.rules):
        return [-2]
    rule = checker.rules[number]
    return counted(numbers_of(equation_form(rule.left, rule.right)))


def answer_proof(checker, text):
    lines = read_proof(text, checker.signature, checker.rules)
    if isinstance(lines, Fault):
        return [lines.line, lines.reason]
    checker.lines = lines
    return [0, len(lines)]


def answer_line(checker, text):
    line = read_line(text, checker.lines, checker.signature, checker.rules)
    if not isinstance(line, Line):
        return [-line]
    checker.lines.append(line)
    return [len(checker.lines)]


def answer_drop(checker):
    if len(checker.lines) == 0:
        return [-8]
    checker.lines.pop()
    return [len(checker.lines)]


def answer_text(checker):
    return counted(numbers_of(proof_text(checker.lines)))


def answer_says(checker, number):
    if not 0 <= number < len(checker.lines):
        return [-2]
    line = checker.lines[number]
    return counted(numbers_of(equation_form(line.left, line.right)))


def answer_under(checker, number):
    if not 0 <= number < len(checker.lines):
        return [-2]
    return counted(lines_under(checker.lines, number))


def answer_leans(checker, number):
    if not 0 <= number < len(checker.lines):
        return [-2]
    return counted(rules_under(checker.lines, number))


def answer_part(checker, number):
    if not 0 <= number < len(checker.lines):
        return [-2]
    return counted(numbers_of(part_text(checker.lines, number)))


def answer_find(checker, text):
    sides = read_sides(text)
    if len(sides) == 0:
        return [-1]
    return counted(lines_saying(checker.lines, sides[0], sides[1]))


def answer_world(checker, size):
    if not 1 <= size <= GREATEST_SIZE:
        return [-2]
    checker.world = World(size, {})
    return [0]


def answer_table(checker, name, table):
    operator = checker.signature.operators.get(name)
    if operator is None:
        return [-3]
    if not is_table(checker.world, operator, table):
        return [-4]
    checker.world = told_world(checker.world, name, table)
    return [len(checker.world.tables)]


def answer_value(checker, text):
    term = read_term(text)
    if term is None:
        return [-1]
    if not in_bounds(term):
        return [-5]
    if has_unknowns(term) or sort_of(checker.signature, term) is None:
        return [-3]
    return [value_of(checker.world, term)]


def answer_holds(checker, number):
    if not 0 <= number < len(checker.rules):
        return [-2]
    rule = checker.rules[number]
    if len(rule.unknowns) > MOST_UNKNOWNS:
        return [-7]
    failure = failure_of(checker.world, rule)
    return [1, 0] if failure is None else [0] + counted(failure)


def answer_true(checker):
    if any([len(rule.unknowns) > MOST_UNKNOWNS for rule in checker.rules]):
        return [-7]
    world = checker.world
    holding = [rule for rule in checker.rules if failure_of(world, rule) is None]
    even = [line for line in checker.lines if value_of(world, line.left) == value_of(world, line.right)]
    return [len(holding), len(even)]


TEXT_CALLS = {
    0: answer_signature, 1: answer_rule, 3: answer_proof, 4: answer_line, 11: answer_find, 14: answer_value,
}
NUMBER_CALLS = {
    2: answer_show, 7: answer_says, 8: answer_under, 9: answer_leans, 10: answer_part, 12: answer_world,
    15: answer_holds,
}
BARE_CALLS = {5: answer_drop, 6: answer_text, 16: answer_true}


# The numbers of the row at this place, ahead of which stands how many they are.
def row_at(calls, place):
    return calls[place + 1:place + 1 + calls[place]]


def answers(calls):
    checker = Checker()
    given = []
    place = 0
    while place < len(calls):
        call = calls[place]
        place = place + 1
        if call in TEXT_CALLS:
            row = row_at(calls, place)
            place = place + 1 + len(row)
            answer = TEXT_CALLS[call](checker, text_of(row))
        elif call in NUMBER_CALLS:
            answer = NUMBER_CALLS[call](checker, calls[place])
            place = place + 1
        elif call in BARE_CALLS:
            answer = BARE_CALLS[call](checker)
        else:
            name = row_at(calls, place)
            place = place + 1 + len(name)
            table = row_at(calls, place)
            place = place + 1 + len(table)
            answer = answer_table(checker, text_of(name), table)
        given.append(len(answer))
        given.extend(answer)
    return given
