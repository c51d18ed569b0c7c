"""Worlds: their tables, the values of terms in them, and the first values for which a rule does not hold."""

from equationproofs.terms import equation_form, is_numeral

FIRST_SIZE = 2
GREATEST_SIZE = 3


# Tables is a dict from the names of the operators whose tables were told to these tables.
# Known and failures keep what was found out already; they stay right, since a world's tables never change.
class World:
    def __init__(self, size, tables):
        self.size = size
        self.tables = tables
        self.known = {}
        self.failures = {}


# The world in which this table was told, too.
def told_world(world, name, table):
    tables = dict(world.tables)
    tables[name] = table
    return World(world.size, tables)


def is_table(world, operator, table):
    places = 1
    for taken in operator.takes:
        places = places * world.size
    return len(table) == places and all([0 <= value < world.size for value in table])


# The value of a term without unknowns.
def value_of(world, term):
    return values_of(world, term, world.known, 1)[0]


# The values of a term, one for each of so many ways to give values to the unknowns. Known is a dict from
# forms to such lists: those of the unknowns, and of the terms that were met before.
def values_of(world, term, known, ways):
    if term.form not in known:
        known[term.form] = new_values(world, term, known, ways)
    return known[term.form]


def new_values(world, term, known, ways):
    if is_numeral(term):
        return [int(term.token) % world.size] * ways
    if term.token not in world.tables:
        return [0] * ways
    places = [0] * ways
    for part in term.parts:
        added = values_of(world, part, known, ways)
        places = [place * world.size + value for place, value in zip(places, added)]
    table = world.tables[term.token]
    return [table[place] for place in places]


# The first values of the unknowns for which the rule does not hold; None if it holds.
def failure_of(world, rule):
    form = equation_form(rule.left, rule.right)
    if form not in world.failures:
        world.failures[form] = new_failure(world, rule)
    return world.failures[form]


def new_failure(world, rule):
    rows = rows_of_values(world.size, len(rule.unknowns))
    known = {}
    for place, name in enumerate(rule.unknowns):
        known["?" + name] = [row[place] for row in rows]
    left = values_of(world, rule.left, known, len(rows))
    right = values_of(world, rule.right, known, len(rows))
    for row, one, other in zip(rows, left, right):
        if one != other:
            return row
    return None


# All lists of so many values, ordered by the first number in which they differ.
def rows_of_values(size, length):
    rows = [[]]
    while len(rows[0]) < length:
        longer = []
        for row in rows:
            longer.extend([row + [value] for value in range(size)])
        rows = longer
    return rows
