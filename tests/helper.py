"""What the tests share: sheets as bytes, and whole-number algebra that owes the package nothing."""

from sheetunits.desk import read_kinds, un_read


def sheet(text):
    return list(text.encode("latin-1"))


def read(text):
    return un_read(sheet(text))


def kinds(text):
    return read_kinds(sheet(text))


def product(marks=(), places=()):
    return list(marks) + [0] * (8 - len(marks)) + list(places) + [0] * (24 - len(places))


def power_of_two(name, exponent):
    """An expression that raises name to 2 ** exponent; for 30 it is 10 powers deep in parentheses."""
    text = name
    while exponent > 0:
        by = min(exponent, 3)
        text = f"({text}) ^ {2 ** by}"
        exponent -= by
    return text


class Diagonal:
    """rows brought to a diagonal by whole-number steps that can be taken back: left * rows * right."""

    def __init__(self, rows, width):
        self.rows = [list(row) for row in rows]
        self.width = width
        self.left = [[int(i == j) for j in range(len(rows))] for i in range(len(rows))]
        self.rank = 0
        while self.bring_next():
            self.rank += 1

    def bring_next(self):
        at = self.rank
        while True:
            found = [(abs(self.rows[i][j]), i, j) for i in range(at, len(self.rows))
                     for j in range(at, self.width) if self.rows[i][j]]
            if not found:
                return False
            size, i, j = min(found)
            for matrix in (self.rows, self.left):
                matrix[at], matrix[i] = matrix[i], matrix[at]
            for row in self.rows:
                row[at], row[j] = row[j], row[at]
            if self.clear(at):
                return True

    def clear(self, at):
        pivot = self.rows[at][at]
        for i in range(at + 1, len(self.rows)):
            by = self.rows[i][at] // pivot
            for matrix in (self.rows, self.left):
                matrix[i] = [a - by * b for a, b in zip(matrix[i], matrix[at])]
        for j in range(at + 1, self.width):
            by = self.rows[at][j] // pivot
            for row in self.rows:
                row[j] -= by * row[at]
        return not any(self.rows[i][at] for i in range(at + 1, len(self.rows))) and not any(self.rows[at][at + 1:])

    def diagonal(self):
        return [abs(self.rows[i][i]) for i in range(self.rank)]

    def solvable(self, right):
        """Whether some whole numbers x give rows * x = right."""
        turned = [sum(a * b for a, b in zip(row, right)) for row in self.left]
        return (all(turned[i] % self.rows[i][i] == 0 for i in range(self.rank))
                and not any(turned[self.rank:]))


def solvable(rows, width, right):
    return Diagonal(rows, width).solvable(right)
