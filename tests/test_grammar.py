"""Promise 1: what is a sheet, and how deep it may be."""

import unittest

from helper import read

NO_SHEET = [1, -71, 0]


def amount(expression):
    return read(f"let a = {expression};")


class Items(unittest.TestCase):
    def test_ordinary_sheets(self):
        self.assertEqual(read("unit m;"), [0, 1])
        self.assertEqual(read("unit m; unit s; let v = 3 * m / s; fn area(w, h) = w * h; let a = area(m, m) + m ^ 2;"),
                         [0, 5])
        self.assertEqual(read("fn f() = 1; let a = f() + f();"), [0, 2])
        self.assertEqual(read("fn least(x, y) = if x < y then x else y; unit s; let a = least(s, 2 * s) - s;"), [0, 3])
        self.assertEqual(read("unit kg; unit m; unit s; let n = kg * m * s ^ -2; let e = n * m + 0.5 * kg * (m / s) ^ 2;"),
                         [0, 5])

    def test_no_items(self):
        for text in (";", "unit", "unit m", "unit ;", "unit m m;", "unit 1;", "unit m = 1;", "let a;", "let a = ;",
                     "let a = 1", "let = 1;", "let 1 = 1;", "let a 1;", "let a() = 1;", "fn f = 1;", "fn f(x = 1;",
                     "fn f x) = 1;", "fn f(x,) = 1;", "fn f(,x) = 1;", "fn f(x y) = 1;", "fn f(1) = 1;", "fn f(x);",
                     "fn (x) = 1;", "fn f((x)) = 1;", "m;", "1;", "a = 1;", "unit m;;", "unit m; let", "fn",
                     "unit m; unit"):
            self.assertEqual(read(text), NO_SHEET, text)

    def test_what_stands_behind_a_sheet_is_read_too(self):
        self.assertEqual(read("unit m; let a = m; )"), NO_SHEET)
        self.assertEqual(read("unit m; let a = m; 1"), NO_SHEET)


class Expressions(unittest.TestCase):
    def test_expressions(self):
        for text in ("1", "(1)", "-1", "--1", "1+1", "1-1", "1--1", "1+-1", "1*1/1", "1*-1", "-(1)", "(-1)", "1^1",
                     "-1^2", "(1)^-9", "1^2*1^3", "if 1<1 then 1 else 1", "(if 1<1 then 1 else 1)+1",
                     "if 1+1<1*1 then if 1<1 then 1 else 1 else if 1<1 then 1 else 1"):
            self.assertEqual(amount(text), [0, 1], text)

    def test_no_expressions(self):
        for text in ("", "()", "(1", "1)", "+1", "1+", "1*", "*1", "1 1", "1/", "1<1", "(1<1)", "1,1", "(1,1)", "1=1",
                     "if 1 then 1 else 1", "if 1<1 then 1", "if 1<1 else 1", "if 1<1 then 1 else", "if 1<1<1 then 1 else 1",
                     "if if 1<1 then 1 else 1<1 then 1 else 1", "1+if 1<1 then 1 else 1", "-if 1<1 then 1 else 1",
                     "then", "else 1", "if (1<1) then 1 else 1", "1(1)", "(a)(1)", "a(1)(1)", "a(", "a(1", "a(1,)",
                     "a(,1)", "a(1 1)", "a(,)", "1-", "-", "let b = 1"):
            self.assertEqual(amount(text), NO_SHEET, text)

    def test_powers(self):
        for digit in "123456789":
            self.assertEqual(amount(f"1^{digit}"), [0, 1])
            self.assertEqual(amount(f"1^-{digit}"), [0, 1])
            self.assertEqual(amount(f"1 ^ - {digit}"), [0, 1])

    def test_what_is_no_power(self):
        for text in ("0", "-0", "10", "-10", "00", "01", "-01", "1.0", "2.5", "0.1", "99", "--1", "+1", "(1)", "a", "-a",
                     "", "-", "^1", "1^1", "-(1)", "2 ^ 2"):
            self.assertEqual(amount(f"1^{text}"), NO_SHEET, text)
        self.assertEqual(amount("(1^1)^1"), [0, 1])


class Deep(unittest.TestCase):
    """What lies 32 deep is read, what lies 33 deep is no sheet, by each way of going deeper."""

    def assert_deepest(self, wrap, core="1", before="", levels=31):
        text = core
        for level in range(levels):
            text = wrap(text)
        items = before.count(";") + 1
        for head in ("let a", "fn g()", "fn g(x)"):
            self.assertEqual(read(f"{before}{head} = {text};"), [0, items])
            self.assertEqual(read(f"{before}{head} = {wrap(text)};"), NO_SHEET)

    def test_parentheses(self):
        self.assert_deepest(lambda text: f"({text})")
        self.assert_deepest(lambda text: f"1*({text})*1")
        self.assert_deepest(lambda text: f"({text})^2")

    def test_calls(self):
        self.assert_deepest(lambda text: f"f({text})", before="fn f(y) = y + 1;")

    def test_each_argument_of_a_call(self):
        for wrap in (lambda text: f"f({text},1,1)", lambda text: f"f(1,{text},1)", lambda text: f"f(1,1,{text})"):
            self.assert_deepest(wrap, before="fn f(u, v, w) = u + v + w + 1;")

    def test_minus_before_a_factor(self):
        self.assert_deepest(lambda text: f"-{text}")
        self.assert_deepest(lambda text: f"- {text}", core="1^-2")

    def test_then(self):
        self.assert_deepest(lambda text: f"if 1<1 then {text} else 1")

    def test_else(self):
        self.assert_deepest(lambda text: f"if 1<1 then 1 else {text}")

    def test_several_ways_together(self):
        self.assert_deepest(lambda text: f"(if 1<1 then 1 else {text})", core="(1)", levels=15)
        self.assertEqual(amount("(" * 10 + "-" * 11 + "(" * 10 + "1" + ")" * 20), [0, 1])
        self.assertEqual(amount("(" * 10 + "-" * 12 + "(" * 10 + "1" + ")" * 20), NO_SHEET)

    def test_what_goes_no_deeper(self):
        inner = "(" * 31 + "if 1+1-1 < 1*1/1 ^ -2 then 1 else 1" + ")" * 31
        self.assertEqual(amount(inner), NO_SHEET)
        inner = "(" * 30 + "if 1+1-1 < 1*1/1 ^ -2 then 1+1 else 1*1" + ")" * 30
        self.assertEqual(amount(inner), [0, 1])
        self.assertEqual(amount("(" * 31 + "1 ^ -2 - 1 * 1 ^ -1" + ")" * 31), [0, 1])
        self.assertEqual(amount("(" * 31 + "1 + -1" + ")" * 31), NO_SHEET)
        self.assertEqual(amount("+".join(["(" * 31 + "1" + ")" * 31] * 3)), [0, 1])

    def test_what_is_compared_lies_as_deep_as_the_if(self):
        self.assertEqual(amount("if " + "(" * 31 + "1" + ")" * 31 + " < " + "-" * 31 + "1 then 1 else 1"), [0, 1])
        self.assertEqual(amount("if " + "(" * 32 + "1" + ")" * 32 + " < 1 then 1 else 1"), NO_SHEET)
        self.assertEqual(amount("if 1 < " + "-" * 32 + "1 then 1 else 1"), NO_SHEET)

    def test_empty_parentheses_hold_nothing_that_could_lie_too_deep(self):
        self.assertEqual(read("fn f() = 1; let a = " + "(" * 31 + "f()" + ")" * 31 + ";"), [0, 2])
        self.assertEqual(read("fn f() = 1; let a = " + "(" * 32 + "f()" + ")" * 32 + ";"), NO_SHEET)

    def test_very_deep(self):
        for text in ("(" * 2000, "-" * 2000, "a(" * 1000, "if 1<1 then " * 340, "(" * 900 + "1" + ")" * 900):
            self.assertEqual(amount(text), NO_SHEET)

    def test_a_later_item_begins_anew(self):
        deep = "-" * 31 + "1"
        self.assertEqual(read(f"let a = {deep}; let b = {deep}; fn f(x) = {deep};"), [0, 3])


if __name__ == "__main__":
    unittest.main()
