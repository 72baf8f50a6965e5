"""The calls of the package."""

from sheetunits.grammar import items_of
from sheetunits.kinds import kind_in_numbers, kinds_of
from sheetunits.refusals import NoItem, Refusal
from sheetunits.rightness import check_counts, check_right
from sheetunits.tokens import tokens_of


def read_kinds(t):
    """The kinds of all items of the sheet t."""
    sheet = items_of(tokens_of(t))
    check_counts(sheet)
    check_right(sheet)
    return kinds_of(sheet)


def kind_at(k, t):
    """The kind of item k of the sheet t; a sheet that is refused is so whatever k is."""
    kinds = read_kinds(t)
    if k >= len(kinds):
        raise NoItem()
    return kinds[k]


def un_read(t):
    """0 and how many items the sheet has; or 1, the number below 0, and at."""
    try:
        kinds = read_kinds(t)
    except Refusal as refusal:
        return [1, refusal.number, refusal.at]
    return [0, len(kinds)]


def un_kind_of(k, t):
    """2 and the kind of item k of the sheet; or 0 and the number below 0."""
    try:
        kind = kind_at(k, t)
    except Refusal as refusal:
        return [0, refusal.number]
    return [2] + kind_in_numbers(kind)
