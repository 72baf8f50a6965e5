"""Powers in balance: the most general filling by which an item's equations come to nothing."""

from sheetunits.products import LARGEST, MARKS, divided, filled_in, marks_of, place_alone, places_of, raised, within
from sheetunits.refusals import NotAlike, NotRight, TooLarge

LARGEST_TOLD = 1048576


def bounded(product, at):
    if not within(product, LARGEST):
        raise TooLarge(at)
    return product


def nearest_place(rest):
    """Where in rest the place stands whose exponent is nearest to 0, but not 0; of several the first."""
    indexes = [index for index in range(MARKS, len(rest)) if rest[index] != 0]
    return min(indexes, key=lambda index: abs(rest[index]))


def quotients(rest, index):
    """How often the exponent at index goes into each other one, rounded down; 0 at index itself."""
    result = [exponent // rest[index] for exponent in rest]
    result[index] = 0
    return result


def narrowed(product, index, taken):
    """The product with the place at index replaced: itself by taken, which has not the place."""
    if product[index] == 0:
        return product
    return divided(product, raised(taken, product[index]))


def without(product, index):
    """The product with nothing in the stead of the place at index."""
    return product[:index] + [0] + product[index + 1:]


def check_no_mark(rest, at):
    """Refuses a mark that no place is left to make up for."""
    if any(marks_of(rest)):
        raise NotAlike(at)


def settled(filling, equation, at):
    """The filling, narrowed as far as the equation asks for."""
    rest = bounded(filled_in(equation, filling), at)
    if not any(places_of(rest)):
        check_no_mark(rest, at)
        return filling
    index = 0
    others_left = True
    while others_left:
        index = nearest_place(rest)
        taken = quotients(rest, index)
        filling = [bounded(narrowed(product, index, taken), at) for product in filling]
        rest = bounded(narrowed(rest, index, taken), at)
        others_left = any(places_of(without(rest, index)))
    check_no_mark(rest, at)
    return [without(product, index) for product in filling]


def solved(equations, count, at):
    """What each of the first count places is filled with; refusals tell of the item at."""
    for equation in equations:
        if not within(equation, LARGEST_TOLD):
            raise NotRight(at)
    filling = [place_alone(place) for place in range(count)]
    for equation in equations:
        filling = settled(filling, equation, at)
    return filling
