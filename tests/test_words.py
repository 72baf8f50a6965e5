"""Kinds, number by number, against the document's words followed a second time, over dicts instead of lists.

A product here is a dict of the exponents that are not 0, of ("mark", number) and ("place", number).
"""

import math
import random
import unittest
from fractions import Fraction

from helper import Maker, kind_of, kinds, read, told

LIMIT = 2 ** 30
TOLD = 2 ** 20


class Refused(Exception):
    def __init__(self, number):
        super().__init__(number)
        self.number = number


def times(first, second, power=1):
    result = dict(first)
    for key, exponent in second.items():
        result[key] = result.get(key, 0) + exponent * power
    return {key: exponent for key, exponent in result.items() if exponent}


def checked(product, limit=LIMIT, number=-75):
    if any(abs(exponent) > limit for exponent in product.values()):
        raise Refused(number)
    return product


def filled(product, filling):
    result = {}
    for key, exponent in product.items():
        result = times(result, filling.get(key, {key: 1}), exponent)
    return result


def places_in(product):
    return sorted(key for key in product if key[0] == "place")


def settle(filling, equation):
    r = checked(filled(equation, filling))
    while places_in(r):
        p = min(places_in(r), key=lambda place: (abs(r[place]), place))
        instead = {p: {q: 1 if q == p else 0 - math.floor(Fraction(r[q], r[p])) for q in r}}
        filling = {place: checked(filled(given, instead)) for place, given in filling.items()}
        r = checked(filled(r, instead))
        if list(r) == [p]:
            return {place: filled(given, {p: {}}) for place, given in filling.items()}
        if places_in(r) == [p]:
            raise Refused(-61)
    if r:
        raise Refused(-61)
    return filling


def solve(equations, count):
    for equation in equations:
        checked(equation, TOLD, -22)
    filling = {("place", place): {("place", place): 1} for place in range(count)}
    for equation in equations:
        filling = settle(filling, equation)
    return filling


class Item:
    """Goes through one item's tree; items has the kinds before it: parameters' products, what comes, places."""

    def __init__(self, items):
        self.items = items
        self.count = 0
        self.equations = []

    def new_place(self):
        if self.count == 24:
            raise Refused(-28)
        self.count += 1
        return {("place", self.count - 1): 1}

    def alike(self, first, second):
        self.equations.append(times(first, second, -1))
        return first

    def use(self, name, given):
        of, comes, places = self.items[name]
        new = {("place", place): self.new_place() for place in range(places)}
        for argument, parameter in zip(given, of):
            self.alike(argument, filled(parameter, new))
        return filled(comes, new)

    def value(self, tree, names):
        word, parts = tree[0], tree[1:]
        if word == "zero":
            return self.new_place()
        if word == "one":
            return {}
        if word == "unit":
            return {("mark", "ms".index(parts[0])): 1}
        if word == "name":
            return names[parts[0]]
        if word == "power":
            return checked(times({}, self.value(parts[0], names), parts[1]))
        if word == "use":
            return self.use(parts[0], [self.value(part, names) for part in parts[1:]])
        if word == "if":
            self.alike(self.value(parts[0], names), self.value(parts[1], names))
            return self.alike(self.value(parts[2], names), self.value(parts[3], names))
        values = [self.value(part, names) for part in parts]
        if word == "minus":
            return values[0]
        if word in ("plus", "less"):
            return self.alike(values[0], values[1])
        return checked(times(values[0], values[1], 1 if word == "times" else -1))

    def kind(self, parameters, tree):
        names = {name: self.new_place() for name in parameters}
        comes = self.value(tree, names)
        if len(self.equations) > 256:
            raise Refused(-28)
        filling = solve(self.equations, self.count)
        products = [checked(filled(product, filling)) for product in [names[name] for name in parameters] + [comes]]
        anew = {}
        for product in products:
            for place in places_in(product):
                anew.setdefault(place, {("place", len(anew)): 1})
        products = [filled(product, anew) for product in products]
        return products[:-1], products[-1], len(anew)


def in_pair(product):
    return ([product.get(("mark", mark), 0) for mark in range(8)],
            [product.get(("place", place), 0) for place in range(24)])


def in_numbers(kind):
    of, comes, places = kind
    return told(places, [in_pair(product) for product in of], in_pair(comes))


class ByTheWords(unittest.TestCase):
    def setUp(self):
        self.counts = {}

    def expected(self, items, parameters, tree):
        try:
            return Item(items).kind(parameters, tree)
        except Refused as refused:
            return refused.number

    def fits_by_the_words(self, maker, before, name, items):
        """Whether the item that is put behind is not refused, by the words and by the package alike."""
        kind = self.expected(items, *maker.trees[name])
        text = before + maker.text(name)
        at = len(items) + 2
        number = kind if isinstance(kind, int) else 0
        self.counts[number] = self.counts.get(number, 0) + 1
        if number:
            self.assertEqual(read(text), [1, number, at], text)
            self.assertEqual(kind_of(at, text), [0, number], text)
            return False
        self.assertEqual(read(text), [0, at + 1], text)
        self.assertEqual(kind_of(at, text), in_numbers(kind), text)
        items[name] = kind
        return True

    def assert_seen(self, number, least):
        self.assertGreater(self.counts.get(number, 0), least, self.counts)


class Sheets(ByTheWords):
    def test_sheets_by_chance(self):
        for seed in range(1000, 1600):
            maker = Maker(seed)
            before, items = "unit m; unit s;", {}
            name = maker.add_item()
            while len(items) < 7 and self.fits_by_the_words(maker, before, name, items):
                before += maker.text(name)
                name = maker.add_item()
            self.assertEqual([kind.told for kind in kinds(before)[2:]], [in_numbers(kind) for kind in items.values()])
        self.assert_seen(0, 1000)
        self.assert_seen(-61, 200)


class Systems(ByTheWords):
    """Functions of up to 6 parameters whose equations have many places, and small or large exponents."""

    def setUp(self):
        ByTheWords.setUp(self)
        self.random = random.Random(5)

    def powers(self, names, size, more):
        """A product of powers of the names; each may be raised up to more times once more."""
        tree = ("one",)
        for name in names:
            exponent = self.random.choice((0, self.random.randint(0 - size, size)))
            if exponent:
                power = ("power", ("unit" if name in ("m", "s") else "name", name), exponent)
                for again in range(self.random.randint(0, more)):
                    power = ("power", power, self.random.randint(5, 9))
                tree = ("times", tree, power)
        return tree

    def function(self, size, more):
        parameters = ["p", "q", "r", "u", "v", "w"][:self.random.randint(1, 6)]
        names = parameters + self.random.choice(([], [], ["m"], ["m", "s"]))
        tree = self.powers(names, 2, 0)
        for equation in range(self.random.randint(1, 4)):
            word = self.random.choice(("plus", "less"))
            tree = ("times", tree, (word, self.powers(names, size, more), self.powers(names, size, more)))
        if self.random.random() < 0.3:
            tree = ("plus", tree, ("zero",))
        return parameters, tree

    def go_through(self, trials, size, more):
        for trial in range(trials):
            maker = Maker(trial)
            maker.trees["f0"] = self.function(size, more)
            self.fits_by_the_words(maker, "unit m; unit s;", "f0", {})

    def test_small_exponents(self):
        for size in (1, 2, 3, 9):
            self.go_through(500, size, 0)
        self.assert_seen(0, 1000)
        self.assert_seen(-61, 100)

    def test_large_exponents(self):
        for more in (2, 4, 6, 7):
            self.go_through(300, 9, more)
        self.assert_seen(0, 100)
        self.assert_seen(-61, 100)
        self.assert_seen(-75, 100)
        self.assert_seen(-22, 10)


if __name__ == "__main__":
    unittest.main()
