"""The items of a sheet, read from its tokens.

An expression becomes a list of steps, in the order in which they are gone through: what something is
made of comes before it. A step is a triple: what is done, a name or "", and a whole number or 0.
"""

from sheetunits.refusals import NoSheet

DEEPEST = 32
END = "end"


class Item:
    """One item: word is "unit", "let" or "fn"; a unit has no steps, only a function has parameters."""

    def __init__(self, word, name, parameters, steps):
        self.word = word
        self.name = name
        self.parameters = parameters
        self.steps = steps


class Reader:
    """Goes once through the tokens, and keeps the steps of the item that it is at."""

    def __init__(self, tokens):
        self.tokens = tokens + [(END, "")]
        self.position = 0
        self.steps = []

    def ahead(self):
        return self.tokens[self.position][0]

    def take(self, sort):
        """The text of the token ahead, which has to be of this sort."""
        token = self.tokens[self.position]
        if token[0] != sort:
            raise NoSheet()
        self.position = self.position + 1
        return token[1]

    def take_if(self, sort):
        if self.ahead() != sort:
            return False
        self.position = self.position + 1
        return True

    def put(self, action, name, number):
        self.steps.append((action, name, number))

    def read_sheet(self):
        read = []
        while self.ahead() != END:
            read.append(self.read_item())
        return read

    def read_item(self):
        self.steps = []
        if self.take_if("unit"):
            name = self.take("name")
            self.take(";")
            return Item("unit", name, [], [])
        if self.take_if("let"):
            name = self.take("name")
            self.read_meaning()
            return Item("let", name, [], self.steps)
        self.take("fn")
        name = self.take("name")
        parameters = self.read_parameters()
        self.read_meaning()
        return Item("fn", name, parameters, self.steps)

    def read_parameters(self):
        self.take("(")
        if self.take_if(")"):
            return []
        names = [self.take("name")]
        while self.take_if(","):
            names.append(self.take("name"))
        self.take(")")
        return names

    def read_meaning(self):
        self.take("=")
        self.read_expression(1)
        self.take(";")

    def read_expression(self, depth):
        if not self.take_if("if"):
            self.read_sum(depth)
            return
        self.read_sum(depth)
        self.take("<")
        self.read_sum(depth)
        self.put("compare", "", 0)
        self.take("then")
        self.read_expression(depth + 1)
        self.take("else")
        self.read_expression(depth + 1)
        self.put("alike", "", 0)

    def read_sum(self, depth):
        self.read_term(depth)
        while self.take_if("+") or self.take_if("-"):
            self.read_term(depth)
            self.put("alike", "", 0)

    def read_term(self, depth):
        self.read_power(depth)
        while self.ahead() in ("*", "/"):
            sign = self.take(self.ahead())
            self.read_power(depth)
            self.put(sign, "", 0)

    def read_power(self, depth):
        self.read_factor(depth)
        if not self.take_if("^"):
            return
        sign = -1 if self.take_if("-") else 1
        digits = self.take("number")
        if len(digits) != 1 or digits == "0":
            raise NoSheet()
        self.put("^", "", sign * int(digits))

    def read_factor(self, depth):
        # Whatever lies at a depth has a factor there, so this one look guards every way down.
        if depth > DEEPEST:
            raise NoSheet()
        if self.take_if("-"):
            self.read_factor(depth + 1)
        elif self.take_if("("):
            self.read_expression(depth + 1)
            self.take(")")
        elif self.ahead() == "number":
            self.read_number()
        else:
            self.read_name(depth)

    def read_number(self):
        digits = self.take("number").replace(".", "")
        if digits.strip("0") == "":
            self.put("zero", "", 0)
        else:
            self.put("number", "", 0)

    def read_name(self, depth):
        name = self.take("name")
        if self.take_if("("):
            self.put("call", name, self.read_arguments(depth + 1))
        else:
            self.put("name", name, 0)

    def read_arguments(self, depth):
        """Reads to the end of a call's parentheses; answers how many expressions stand in them."""
        if self.take_if(")"):
            return 0
        self.read_expression(depth)
        count = 1
        while self.take_if(","):
            self.read_expression(depth)
            count = count + 1
        self.take(")")
        return count


def items_of(tokens):
    """The items that the tokens are; refused where they are no sheet."""
    return Reader(tokens).read_sheet()
