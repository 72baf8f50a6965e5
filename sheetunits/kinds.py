"""The kinds of a sheet's items, found one after the other."""

from sheetunits.balance import bounded, solved
from sheetunits.products import (
    PLACES, divided, filled_in, mark_alone, marks_of, moved, nothing, place_alone, places_of, product_in_numbers,
    raised, times)
from sheetunits.refusals import TooMuch

MOST_EQUATIONS = 256


class Kind:
    """What is told of an item: of for its parameters, comes, and how many places are in them."""

    def __init__(self, of, comes, places):
        self.of = of
        self.comes = comes
        self.places = places


def kind_in_numbers(kind):
    """How many parameters and places the kind has, how many products of is, each of these, then comes."""
    numbers = [len(kind.of), kind.places, len(kind.of)]
    for product in kind.of + [kind.comes]:
        numbers.extend(product_in_numbers(product))
    return numbers


class Work:
    """An item that is gone through: known are the kinds before it, came is what awaits its use."""

    def __init__(self, at, known):
        self.at = at
        self.known = known
        self.own = {}
        self.used = 0
        self.equations = []
        self.came = []

    def claim_places(self, count):
        """Takes count new places; answers the first one's number."""
        first = self.used
        if first + count > PLACES:
            raise TooMuch(self.at)
        self.used = first + count
        return first

    def new_place(self):
        return place_alone(self.claim_places(1))

    def tell_alike(self, first, second):
        self.equations.append(divided(first, second))

    def go_through(self, step):
        action = step[0]
        if action == "zero":
            self.came.append(self.new_place())
        elif action == "number":
            self.came.append(nothing())
        elif action == "name":
            self.came.append(self.product_named(step[1]))
        elif action == "call":
            self.call(self.known[step[1]])
        elif action == "^":
            self.came.append(bounded(raised(self.came.pop(), step[2]), self.at))
        else:
            self.bring_together(action)

    def product_named(self, name):
        if name in self.own:
            return self.own[name]
        kind = self.known[name]
        return moved(kind.comes, self.claim_places(kind.places))

    def call(self, kind):
        first = self.claim_places(kind.places)
        start = len(self.came) - len(kind.of)
        for argument, parameter in zip(self.came[start:], kind.of):
            self.tell_alike(argument, moved(parameter, first))
        self.came = self.came[:start] + [moved(kind.comes, first)]

    def bring_together(self, action):
        second = self.came.pop()
        first = self.came.pop()
        if action == "*":
            self.came.append(bounded(times(first, second), self.at))
        elif action == "/":
            self.came.append(bounded(divided(first, second), self.at))
        else:
            self.tell_alike(first, second)
            if action == "alike":
                self.came.append(first)


def places_in_order(products):
    """The numbers of the places in the products, as they come first."""
    order = []
    for product in products:
        for place, exponent in enumerate(places_of(product)):
            if exponent != 0 and place not in order:
                order.append(place)
    return order


def numbered_anew(product, order):
    places = places_of(product)
    return marks_of(product) + [places[place] for place in order] + [0] * (PLACES - len(order))


def kind_from(parameters, comes):
    order = places_in_order(parameters + [comes])
    return Kind([numbered_anew(product, order) for product in parameters], numbered_anew(comes, order), len(order))


def kind_of_expression(at, item, known):
    """The kind of an amount or a function."""
    work = Work(at, known)
    for name in item.parameters:
        work.own[name] = work.new_place()
    for step in item.steps:
        work.go_through(step)
    if len(work.equations) > MOST_EQUATIONS:
        raise TooMuch(at)
    filling = solved(work.equations, work.used, at)
    parameters = [bounded(filled_in(work.own[name], filling), at) for name in item.parameters]
    return kind_from(parameters, bounded(filled_in(work.came[0], filling), at))


def kinds_of(sheet):
    """The kinds of all items, in order; refused at the first item that has none."""
    known = {}
    units = 0
    for at, item in enumerate(sheet):
        if item.word == "unit":
            known[item.name] = Kind([], mark_alone(units), 0)
            units = units + 1
        else:
            known[item.name] = kind_of_expression(at, item, known)
    return [known[item.name] for item in sheet]
