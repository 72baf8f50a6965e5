"""The calls of the package."""

from sheetunits.grammar import items_of
from sheetunits.kinds import kinds_of
from sheetunits.refusals import Refusal
from sheetunits.rightness import check_counts, check_right
from sheetunits.tokens import tokens_of


def read_kinds(t):
    """The kinds of all items of the sheet t."""
    sheet = items_of(tokens_of(t))
    check_counts(sheet)
    check_right(sheet)
    return kinds_of(sheet)


def un_read(t):
    """0 and how many items the sheet has; or 1, the number below 0, and at."""
    try:
        kinds = read_kinds(t)
    except Refusal as refusal:
        return [1, refusal.number, refusal.at]
    return [0, len(kinds)]
