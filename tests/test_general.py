"""What holds, a to d: random sheets, judged by working each item out anew with all calls written out.

A value here is a dict of exponents: of "m" and "s", the marks, and of unknowns, numbered as they come.
"""

import unittest

from helper import Diagonal, Maker, kinds, read, solvable

MARKS = ("m", "s")


def times(first, second, power=1):
    result = dict(first)
    for key, exponent in second.items():
        result[key] = result.get(key, 0) + exponent * power
    return result


class Judge:
    """Goes through an expression's tree; a name's meaning is its own tree, written out where it is used."""

    def __init__(self, trees):
        self.trees = trees
        self.unknowns = 0
        self.equations = []

    def unknown(self):
        self.unknowns += 1
        return {self.unknowns - 1: 1}

    def alike(self, first, second):
        self.equations.append(times(first, second, -1))
        return first

    def value(self, tree, names):
        word, parts = tree[0], tree[1:]
        if word == "zero":
            return self.unknown()
        if word == "one":
            return {}
        if word == "unit":
            return {parts[0]: 1}
        if word == "name":
            return names[parts[0]]
        if word == "power":
            return times({}, self.value(parts[0], names), parts[1])
        if word == "use":
            parameters, meaning = self.trees[parts[0]]
            given = [self.value(part, names) for part in parts[1:]]
            return self.value(meaning, dict(zip(parameters, given)))
        values = [self.value(part, names) for part in parts]
        if word == "minus":
            return values[0]
        if word == "if":
            self.alike(values[0], values[1])
            return self.alike(values[2], values[3])
        if word == "times":
            return times(values[0], values[1])
        if word == "by":
            return times(values[0], values[1], -1)
        return self.alike(values[0], values[1])


class System:
    """An item's equations and its parameters' values, with the unknowns as columns."""

    def __init__(self, judge, told):
        self.equations = judge.equations
        self.told = told
        self.width = judge.unknowns

    def row(self, value):
        return [value.get(column, 0) for column in range(self.width)]

    def solvable(self):
        rows = [self.row(equation) for equation in self.equations]
        return all(solvable(rows, self.width, [0 - equation.get(mark, 0) for equation in self.equations])
                   for mark in MARKS)

    def allows(self, mark, exponents):
        """Whether the item goes together when what's told has these exponents of the mark."""
        rows = [self.row(equation) for equation in self.equations] + [self.row(value) for value in self.told]
        right = [0 - equation.get(mark, 0) for equation in self.equations]
        right += [exponent - value.get(mark, 0) for exponent, value in zip(exponents, self.told)]
        return solvable(rows, self.width, right)


class RandomSheets(unittest.TestCase):
    def judged(self, maker, name):
        judge = Judge(maker.trees)
        parameters, tree = maker.trees[name]
        names = {parameter: judge.unknown() for parameter in parameters}
        comes = judge.value(tree, names)
        return System(judge, [names[parameter] for parameter in parameters] + [comes])

    def assert_told(self, kind, system, chance):
        products = kind.of + [kind.comes]
        spread = [told[8:8 + kind.places] for told in products]
        used = [any(told[8 + place] for told in products) for place in range(24)]
        self.assertEqual(used, [place < kind.places for place in range(24)])
        for mark, name in enumerate(MARKS):
            base = [told[mark] for told in products]
            for trial in range(4):
                # a: whatever the places are filled with, it goes together.
                fill = [chance.randint(-3, 3) for place in range(kind.places)]
                filled = [have + sum(a * b for a, b in zip(row, fill)) for have, row in zip(base, spread)]
                self.assertTrue(system.allows(name, filled))
                # b: what goes together comes of what is told.
                other = [have + chance.randint(-2, 2) for have in filled]
                comes_of_it = solvable(spread, kind.places, [a - b for a, b in zip(other, base)])
                self.assertEqual(system.allows(name, other), comes_of_it)
        # b, of all: as many places as the unknowns leave free, and no place a multiple of what could be.
        rows = [system.row(equation) for equation in system.equations]
        told = [system.row(value) for value in system.told]
        free = Diagonal(rows + told, system.width).rank - Diagonal(rows, system.width).rank
        self.assertEqual(Diagonal(spread, kind.places).rank, free)

    def test_random_sheets(self):
        counts = {"fits": 0, -61: 0, -28: 0}
        for seed in range(400):
            maker = Maker(seed)
            text = "unit m; unit s;"
            for item in range(2, 8):
                name = maker.add_item()
                longer = text + maker.text(name)
                answer = read(longer)
                if answer[0] == 1:
                    self.assertIn(answer[1:], ([-61, item], [-28, item]), longer)
                    counts[answer[1]] += 1
                if answer[0] == 1 and answer[1] == -61:
                    # c: it goes together by no kinds at all.
                    self.assertFalse(self.judged(maker, name).solvable(), longer)
                if answer[0] == 1:
                    break
                self.assertEqual(answer, [0, item + 1], longer)
                self.assert_told(kinds(longer)[-1], self.judged(maker, name), maker.random)
                # d: what is behind changes nothing of what is before.
                before, after = kinds(text), kinds(longer)
                self.assertEqual([kind.told for kind in before], [kind.told for kind in after[:-1]])
                counts["fits"] += 1
                text = longer
        self.assertGreater(counts["fits"], 400)
        self.assertGreater(counts[-61], 100)


if __name__ == "__main__":
    unittest.main()
