"""Texts as lists of bytes and as Python's texts, and the lines, names and numbers in them."""

LETTERS = "abcdefghijklmnopqrstuvwxyz"
DIGITS = "0123456789"
# All signs that signatures, terms, rules and proofs are written with.
SIGNS = "abcdefghijklmnopqrstuvwxyz0123456789?-(),= \n"
# No byte but those of SIGNS is ever answered again, so one sign can stand for all the others of a kind:
# only a signature's fault asks whether such a byte is from 32 to 126.
OTHER_PRINTABLE = "!"
UNPRINTABLE = "\t"
LONGEST_NAME = 12
# No number that is written in a text may be as great as this.
BEYOND = 1000000000000000000
BEYOND_DIGITS = 19


# What is told of a signature's or a proof's text that is not taken: the line is numbered from 1.
class Fault:
    def __init__(self, line, reason):
        self.line = line
        self.reason = reason


def text_of(numbers):
    known = dict([(ord(sign), sign) for sign in SIGNS])
    return "".join([known[number] if number in known else stand_in(number) for number in numbers])


def stand_in(number):
    return OTHER_PRINTABLE if 32 <= number <= 126 else UNPRINTABLE


def numbers_of(text):
    return [ord(sign) for sign in text]


def lines_of(text):
    pieces = text.split("\n")
    return pieces[:-1] if pieces[-1] == "" else pieces


def is_name(word):
    if not 1 <= len(word) <= LONGEST_NAME or word[0] not in LETTERS:
        return False
    return all([sign in LETTERS or sign in DIGITS for sign in word])


# None for a word that is no number in decimal without needless zeros.
def decimal(word):
    if not word.isdigit() or (word[0] == "0" and word != "0"):
        return None
    # Python makes no number of some thousand digits, and all these are too great alike.
    return int(word) if len(word) < BEYOND_DIGITS else BEYOND
