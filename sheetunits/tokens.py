"""A sheet's bytes, parted into tokens.

A token is a pair: its sort, then its text. The sort is "name", "number", or the word or sign itself.
"""

from sheetunits.refusals import NoSheet, TooMuch

MOST_BYTES = 8192
MOST_TOKENS = 2048
LONGEST_NAME = 16
MOST_DIGITS = 15

LETTERS = "abcdefghijklmnopqrstuvwxyz"
DIGITS = "0123456789"
NAME_SIGNS = "abcdefghijklmnopqrstuvwxyz0123456789_"
SIGNS = "(),;=+-*/^<"
BLANKS = " \n"
POINT = "."
STRANGE = "?"
WORDS = ("unit", "let", "fn", "if", "then", "else")


def text_of(t):
    """The bytes as a text, each one that no sheet has as a STRANGE sign."""
    signs = NAME_SIGNS + SIGNS + BLANKS + POINT
    sign_of = dict(zip([ord(sign) for sign in signs], signs))
    return "".join([sign_of.get(byte, STRANGE) for byte in t])


def end_of_run(text, start, signs):
    """Where the run of these signs ends that begins at start."""
    end = start
    while end < len(text) and text[end] in signs:
        end = end + 1
    return end


def name_at(text, start):
    name = text[start:end_of_run(text, start, NAME_SIGNS)]
    if len(name) > LONGEST_NAME:
        raise NoSheet()
    if name in WORDS:
        return (name, name)
    return ("name", name)


def number_at(text, start):
    end = end_of_run(text, start, DIGITS)
    count = end - start
    if text[end:end + 1] == POINT:
        behind = end + 1
        end = end_of_run(text, behind, DIGITS)
        if end == behind:
            raise NoSheet()
        count = count + end - behind
    if count > MOST_DIGITS:
        raise NoSheet()
    return ("number", text[start:end])


def token_at(text, start):
    sign = text[start]
    if sign in LETTERS:
        return name_at(text, start)
    if sign in DIGITS:
        return number_at(text, start)
    if sign in SIGNS:
        return (sign, sign)
    raise NoSheet()


def parted(text):
    tokens = []
    start = end_of_run(text, 0, BLANKS)
    while start < len(text):
        token = token_at(text, start)
        tokens.append(token)
        start = end_of_run(text, start + len(token[1]), BLANKS)
    return tokens


def tokens_of(t):
    """The tokens of the bytes t; refused where they are too many, or t is not made of tokens."""
    if len(t) > MOST_BYTES:
        raise TooMuch(0)
    tokens = parted(text_of(t))
    if len(tokens) > MOST_TOKENS:
        raise TooMuch(0)
    return tokens
