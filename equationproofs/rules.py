"""Rules: how their texts are read, and whether they fit a signature."""

from equationproofs.signatures import fits
from equationproofs.terms import in_bounds, read_term

MOST_RULES = 40


# Unknowns is a dict from the unknowns' names to their sorts, in the order of the unknowns.
class Rule:
    def __init__(self, left, right, unknowns, gives):
        self.left = left
        self.right = right
        self.unknowns = unknowns
        self.gives = gives


# The two sides of an equation's text; an empty list if it is no such text.
def read_sides(text):
    if text.count("=") != 1:
        return []
    sides = [read_term(side) for side in text.split("=")]
    return [] if sides[0] is None or sides[1] is None else sides


# The rule, or the number of the refusal.
def read_rule(text, signature):
    sides = read_sides(text)
    if len(sides) == 0:
        return -1
    if not in_bounds(sides[0]) or not in_bounds(sides[1]):
        return -5
    fitting = fitting_rules(signature, sides[0], sides[1])
    return fitting[0] if len(fitting) == 1 else -3


# Once the sort of both sides is chosen, the sort of each unknown follows from its place:
# there are as many ways to give sorts to the unknowns as there are sorts to choose here.
def fitting_rules(signature, left, right):
    fitting = []
    for wanted in signature.sorts:
        unknowns = {}
        if fits(signature, left, wanted, unknowns) and fits(signature, right, wanted, unknowns):
            fitting.append(Rule(left, right, unknowns, wanted))
    return fitting
