"""Whether a sheet's items are few enough, and right."""

from sheetunits.refusals import NotRight, TooMuch

MOST_ITEMS = 64
MOST_UNITS = 8
MOST_PARAMETERS = 6


def check_counts(sheet):
    """Refuses the first item that is one too many, one unit too many, or has too many parameters."""
    units = 0
    for at, item in enumerate(sheet):
        if item.word == "unit":
            units = units + 1
        if at >= MOST_ITEMS or units > MOST_UNITS or len(item.parameters) > MOST_PARAMETERS:
            raise TooMuch(at)


def names_are_new(item, before):
    """Whether the item's own name and its parameters' names are free for it."""
    if item.name in before:
        return False
    seen = {}
    for name in item.parameters:
        if name in seen or name in before:
            return False
        seen[name] = True
    return True


def step_is_right(step, item, before):
    """Whether what a step names, if it names something, is there to be used so."""
    name = step[1]
    if step[0] == "name":
        return name in item.parameters or (name in before and before[name].word != "fn")
    if step[0] == "call":
        return name in before and before[name].word == "fn" and len(before[name].parameters) == step[2]
    return True


def item_is_right(item, before):
    return names_are_new(item, before) and all([step_is_right(step, item, before) for step in item.steps])


def check_right(sheet):
    """Refuses the first item that is not right."""
    before = {}
    for at, item in enumerate(sheet):
        if not item_is_right(item, before):
            raise NotRight(at)
        before[item.name] = item
