"""Terms: how they are read, written, measured, and made from others."""

from equationproofs.texts import DIGITS, decimal, is_name

GREATEST_NUMERAL = 1000000000
MOST_OPENED = 40
MOST_NODES = 200
MOST_DEPTH = 40


# The token is what the form begins with: a numeral, ? and an unknown's name, or an operator's name.
# Nodes, depth and form are kept, since terms may share parts and then be far greater than what was read.
class Term:
    def __init__(self, token, parts):
        self.token = token
        self.parts = parts
        self.nodes = 1 + sum([part.nodes for part in parts])
        self.depth = 1 + max([part.depth for part in parts], default=0)
        self.form = form_of(token, parts)


def form_of(token, parts):
    if len(parts) == 0:
        return token
    return token + "(" + ",".join([part.form for part in parts]) + ")"


def is_unknown(term):
    return term.token[0] == "?"


def is_numeral(term):
    return term.token[0] == "-" or term.token[0] in DIGITS


def in_bounds(term):
    return term.nodes <= MOST_NODES and term.depth <= MOST_DEPTH


def has_unknowns(term):
    return "?" in term.form


def equation_form(left, right):
    return left.form + " = " + right.form


# The words that come out may still be no tokens; they are judged where they are used.
def tokens_of(text):
    spaced = text
    for sign in "?-":
        spaced = spaced.replace(sign, " " + sign)
    for sign in "(),":
        spaced = spaced.replace(sign, " " + sign + " ")
    return [word for word in spaced.split(" ") if word != ""]


def begins_term(token):
    if token[0] == "?":
        return is_name(token[1:])
    if token[0] == "-":
        number = decimal(token[1:])
        return number is not None and 0 < number <= GREATEST_NUMERAL
    number = decimal(token)
    return is_name(token) or (number is not None and number <= GREATEST_NUMERAL)


# None for a text that is read as no term.
def read_term(text):
    # The applications whose ) is still to come, each a name and the parts so far.
    opened = []
    # The term that ends where the reading stands; None where one must begin.
    done = None
    for token in tokens_of(text):
        if done is None:
            if not begins_term(token):
                return None
            done = Term(token, [])
        elif token == "(":
            if len(opened) == MOST_OPENED or len(done.parts) > 0 or not is_name(done.token):
                return None
            opened.append((done.token, []))
            done = None
        elif len(opened) == 0:
            return None
        elif token == ",":
            opened[-1][1].append(done)
            done = None
        elif token == ")":
            last = opened.pop()
            done = Term(last[0], last[1] + [done])
        else:
            return None
    return done if len(opened) == 0 else None


# Terms: a dict from each unknown's name to the term in its place.
def replaced(term, terms):
    if is_unknown(term):
        return terms[term.token[1:]]
    return Term(term.token, [replaced(part, terms) for part in term.parts])
