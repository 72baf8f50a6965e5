"""What the tests share: sheets as bytes, kinds as they are told in numbers, sheets by chance, and whole-number
algebra that owes the package nothing."""

import random

from sheetunits.desk import un_kind_of, un_read


def sheet(text):
    return list(text.encode("latin-1"))


def refuse_change(*arguments):
    raise AssertionError("the list handed in is changed")


# A list that can be read, but by no way of its own be changed.
Guarded = type("Guarded", (list,), {name: refuse_change for name in (
    "append", "clear", "extend", "insert", "pop", "remove", "reverse", "sort", "__setitem__", "__delitem__", "__iadd__",
    "__imul__")})


def read(text):
    return un_read(sheet(text))


def kind_of(k, text):
    return un_kind_of(k, sheet(text))


class Told:
    """A kind, parted again from the numbers that un_kind_of tells; nothing may be left over of them."""

    def __init__(self, numbers):
        self.told = list(numbers)
        self.left = list(numbers)
        form, self.parameters, self.places, count = [self.take() for number in range(4)]
        self.of = [self.take_product() for one in range(count)]
        self.comes = self.take_product()
        if form != 2 or self.parameters != count or self.left:
            raise AssertionError(f"no kind: {numbers}")

    def take(self):
        return self.left.pop(0)

    def take_product(self):
        rows = [[self.take() for number in range(self.take())] for row in range(2)]
        if [len(row) for row in rows] != [8, 24]:
            raise AssertionError(f"no product: {rows}")
        return rows[0] + rows[1]


def kinds(text):
    """The kinds of all items of a sheet that is not refused."""
    form, count = read(text)
    return [Told(kind_of(k, text)) for k in range(count)]


def product(marks=(), places=()):
    return list(marks) + [0] * (8 - len(marks)) + list(places) + [0] * (24 - len(places))


def told(places, of, comes):
    """A kind in numbers, of products given as pairs: the first marks' exponents, and the first places'."""
    numbers = [2, len(of), places, len(of)]
    for marks, exponents in of + [comes]:
        numbers += [8] + product(marks, exponents)[:8] + [24] + product(marks, exponents)[8:]
    return numbers


def power_of_two(name, exponent):
    """An expression that raises name to 2 ** exponent; for 30 it is 10 powers deep in parentheses."""
    text = name
    while exponent > 0:
        by = min(exponent, 3)
        text = f"({text}) ^ {2 ** by}"
        exponent -= by
    return text


class Diagonal:
    """rows brought to a diagonal by whole-number steps that can be taken back: left * rows * right."""

    def __init__(self, rows, width):
        self.rows = [list(row) for row in rows]
        self.width = width
        self.left = [[int(i == j) for j in range(len(rows))] for i in range(len(rows))]
        self.rank = 0
        while self.bring_next():
            self.rank += 1

    def bring_next(self):
        at = self.rank
        while True:
            found = [(abs(self.rows[i][j]), i, j) for i in range(at, len(self.rows))
                     for j in range(at, self.width) if self.rows[i][j]]
            if not found:
                return False
            size, i, j = min(found)
            for matrix in (self.rows, self.left):
                matrix[at], matrix[i] = matrix[i], matrix[at]
            for row in self.rows:
                row[at], row[j] = row[j], row[at]
            if self.clear(at):
                return True

    def clear(self, at):
        pivot = self.rows[at][at]
        for i in range(at + 1, len(self.rows)):
            by = self.rows[i][at] // pivot
            for matrix in (self.rows, self.left):
                matrix[i] = [a - by * b for a, b in zip(matrix[i], matrix[at])]
        for j in range(at + 1, self.width):
            by = self.rows[at][j] // pivot
            for row in self.rows:
                row[j] -= by * row[at]
        return not any(self.rows[i][at] for i in range(at + 1, len(self.rows))) and not any(self.rows[at][at + 1:])

    def diagonal(self):
        return [abs(self.rows[i][i]) for i in range(self.rank)]

    def solvable(self, right):
        """Whether some whole numbers x give rows * x = right."""
        turned = [sum(a * b for a, b in zip(row, right)) for row in self.left]
        return (all(turned[i] % self.rows[i][i] == 0 for i in range(self.rank))
                and not any(turned[self.rank:]))


def solvable(rows, width, right):
    return Diagonal(rows, width).solvable(right)


def written(tree):
    word, parts = tree[0], tree[1:]
    if word in ("zero", "one"):
        return {"zero": "0", "one": "2"}[word]
    if word in ("unit", "name"):
        return parts[0]
    if word == "power":
        return f"({written(parts[0])})^{parts[1]}"
    if word == "use":
        arguments = ",".join(written(part) for part in parts[1:])
        return f"{parts[0]}({arguments})" if parts[0].startswith("f") else parts[0]
    texts = [written(part) for part in parts]
    if word == "minus":
        return f"-({texts[0]})"
    if word == "if":
        return f"(if {texts[0]} < {texts[1]} then {texts[2]} else {texts[3]})"
    return f"({texts[0]} {dict(times='*', by='/', plus='+', less='-')[word]} {texts[1]})"


class Maker:
    """Makes sheets of units m and s, amounts a0.. and functions f0.. by chance."""

    def __init__(self, seed):
        self.random = random.Random(seed)
        self.trees = {}

    def leaf(self, parameters):
        choices = [("zero",), ("one",), ("unit", "m"), ("unit", "s")] + [("name", name) for name in parameters] * 3
        choices += [("use", name) for name in self.trees if name.startswith("a")]
        return self.random.choice(choices)

    def tree(self, parameters, size):
        if size <= 0:
            return self.leaf(parameters)
        word = self.random.choice(("times", "by", "plus", "less", "power", "minus", "if", "use", "times", "plus"))
        if word == "power":
            return ("power", self.tree(parameters, size - 1), self.random.choice((-3, -2, -1, 2, 3)))
        if word == "minus":
            return ("minus", self.tree(parameters, size - 1))
        if word == "if":
            return ("if", *[self.tree(parameters, size - 2) for part in range(4)])
        functions = [name for name in self.trees if name.startswith("f")]
        if word == "use" and functions:
            name = self.random.choice(functions)
            return ("use", name, *[self.tree(parameters, size - 2) for part in self.trees[name][0]])
        word = "times" if word == "use" else word
        return (word, self.tree(parameters, size - 1), self.tree(parameters, self.random.randint(0, size - 1)))

    def add_item(self):
        if self.random.random() < 0.3:
            name, parameters = f"a{len(self.trees)}", []
        else:
            name, parameters = f"f{len(self.trees)}", ["x", "y", "z"][:self.random.randint(0, 3)]
        self.trees[name] = (parameters, self.tree(parameters, self.random.randint(0, 3)))
        return name

    def text(self, name):
        parameters, tree = self.trees[name]
        head = f"fn {name}({','.join(parameters)})" if name.startswith("f") else f"let {name}"
        return f"{head} = {written(tree)};"
