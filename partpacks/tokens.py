"""A text cut into its tokens."""

from partpacks.faults import Fault, NO_TOKEN

LONGEST_NAME = 16
GREATEST_NUMBER = 1000000000
MOST_DIGITS = 10
BLANKS = (32, 9, 10)
LINE_END = 10
REMARK = 35
ZERO = 48
WORDS = ("set", "part", "size", "start", "say", "call", "make", "when", "is")
SIGNS = {43: "+", 44: ",", 58: ":", 59: ";", 123: "{", 125: "}"}
# From byte 48 to byte 122; a dot stands for a byte that no name and no number has.
GLYPHS = "0123456789.......ABCDEFGHIJKLMNOPQRSTUVWXYZ......abcdefghijklmnopqrstuvwxyz"


# The kind of a word or a sign is its spelling; no word of the language is spelled
# name, number or end, so the kinds of the other tokens can't be mistaken for one.
class Token:

    def __init__(self, kind, place, after):
        self.kind = kind
        self.place = place
        self.after = after
        self.text = ""
        self.number = 0


def tokens_of(text):
    tokens = []
    at = token_start(text, 0)
    while at < len(text):
        token = token_at(text, at)
        tokens.append(token)
        at = token_start(text, token.after)
    tokens.append(Token("end", at, at))
    return tokens


def token_start(text, at):
    while at < len(text):
        if text[at] == REMARK:
            at = remark_end(text, at)
        elif text[at] in BLANKS:
            at += 1
        else:
            return at
    return at


def remark_end(text, at):
    while at < len(text) and text[at] != LINE_END:
        at += 1
    return at


def token_at(text, at):
    byte = text[at]
    if byte in SIGNS:
        return Token(SIGNS[byte], at, at + 1)
    if is_digit(byte):
        return number_at(text, at)
    if is_letter(byte):
        return name_at(text, at)
    raise Fault(NO_TOKEN, at)


def number_at(text, at):
    after = at
    while after < len(text) and is_digit(text[after]):
        after += 1
    # The digits are counted first, so that no number of thousands of digits is made.
    if after - at > MOST_DIGITS or (after - at > 1 and text[at] == ZERO):
        raise Fault(NO_TOKEN, at)
    token = Token("number", at, after)
    for byte in text[at:after]:
        token.number = token.number * 10 + byte - ZERO
    if token.number > GREATEST_NUMBER:
        raise Fault(NO_TOKEN, at)
    return token


def name_at(text, at):
    after = at
    while after < len(text) and (is_letter(text[after]) or is_digit(text[after])):
        after += 1
    if after - at > LONGEST_NAME:
        raise Fault(NO_TOKEN, at)
    spelling = "".join([GLYPHS[byte - ZERO] for byte in text[at:after]])
    if spelling in WORDS:
        return Token(spelling, at, after)
    token = Token("name", at, after)
    token.text = spelling
    return token


def is_digit(byte):
    return 48 <= byte <= 57


def is_letter(byte):
    return 65 <= byte <= 90 or 97 <= byte <= 122
