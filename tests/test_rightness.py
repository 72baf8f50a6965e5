"""Promise 1: how many items, units and parameters there may be, and which items are right."""

import unittest

from helper import read


class Counts(unittest.TestCase):
    def lets(self, count, start=0):
        return "".join(f"let a{i}=1;" for i in range(start, start + count))

    def units(self, count):
        return "".join(f"unit u{i};" for i in range(count))

    def test_64_and_65_items(self):
        self.assertEqual(read(self.lets(64)), [0, 64])
        self.assertEqual(read(self.lets(65)), [1, -28, 64])
        self.assertEqual(read(self.lets(200)), [1, -28, 64])
        self.assertEqual(read(self.units(8) + self.lets(56)), [0, 64])
        self.assertEqual(read(self.units(8) + self.lets(57)), [1, -28, 64])
        self.assertEqual(read(self.lets(63) + "fn f(x) = x;"), [0, 64])
        self.assertEqual(read(self.lets(64) + "fn f(x) = x;"), [1, -28, 64])
        self.assertEqual(read(self.lets(64) + "unit m;"), [1, -28, 64])

    def test_8_and_9_units(self):
        self.assertEqual(read(self.units(8)), [0, 8])
        self.assertEqual(read(self.units(9)), [1, -28, 8])
        self.assertEqual(read(self.lets(5) + self.units(9)), [1, -28, 13])
        self.assertEqual(read("unit b;" + self.lets(2) + self.units(7) + "fn f() = 1; unit c; unit d;"), [1, -28, 11])

    def test_6_and_7_parameters(self):
        self.assertEqual(read("fn f(a,b,c,d,e,g) = a;"), [0, 1])
        self.assertEqual(read("fn f(a,b,c,d,e,g,h) = a;"), [1, -28, 0])
        self.assertEqual(read("unit m; fn q(x) = x; fn f(a,b,c,d,e,g,h) = a; fn f(a,b,c,d,e,g,h) = a;"), [1, -28, 2])

    def test_the_first_such_item(self):
        seven = "fn f(a,b,c,d,e,g,h) = 1;"
        self.assertEqual(read(self.units(9) + seven), [1, -28, 8])
        self.assertEqual(read(self.units(8) + seven + "unit m;"), [1, -28, 8])
        self.assertEqual(read(self.lets(10) + seven + self.lets(60, 10)), [1, -28, 10])
        self.assertEqual(read(self.lets(66) + seven), [1, -28, 64])
        self.assertEqual(read(self.lets(56) + self.units(10)), [1, -28, 64])
        self.assertEqual(read(self.lets(55) + self.units(10)), [1, -28, 63])


class Right(unittest.TestCase):
    def assert_wrong(self, text, at):
        self.assertEqual(read(text), [1, -22, at], text)

    def assert_right(self, text):
        self.assertEqual(read(text), [0, text.count(";")], text)

    def test_two_items_of_one_name(self):
        items = ("unit a;", "let a = 1;", "fn a() = 1;", "fn a(x) = x;")
        for first in items:
            for second in items:
                self.assert_wrong(first + second, 1)
                self.assert_wrong(f"unit m; {first} let b = m; {second} unit s;", 3)
        self.assert_wrong("unit a; let b = 1; unit b; unit a;", 2)

    def test_two_parameters_of_one_name(self):
        self.assert_wrong("fn f(x, x) = 1;", 0)
        self.assert_wrong("unit m; fn f(x, y, x) = m;", 1)
        self.assert_wrong("fn f(u, v, w, x, y, y) = 1;", 0)
        self.assert_right("fn f(x, y) = x; fn g(x, y) = y;")

    def test_a_parameter_with_an_earlier_items_name(self):
        self.assert_wrong("unit m; fn f(m) = m;", 1)
        self.assert_wrong("unit m; fn f(x, m) = 1;", 1)
        self.assert_wrong("let m = 1; fn f(m) = 1;", 1)
        self.assert_wrong("fn m() = 1; fn f(m) = 1;", 1)
        self.assert_right("fn f(m) = m; unit m;")

    def test_a_parameter_with_its_functions_own_name(self):
        # The function is no item before itself.
        self.assert_right("fn f(f) = f;")
        self.assert_wrong("fn f(f) = f(f);", 0)

    def test_names_used_alone(self):
        self.assert_right("unit m; let a = m; let b = a; fn f(x) = x * a * m;")
        self.assert_wrong("let a = b;", 0)
        self.assert_wrong("let a = a;", 0)
        self.assert_wrong("let a = b; let b = 1;", 0)
        self.assert_wrong("let a = m; unit m;", 0)
        self.assert_wrong("fn f(x) = y;", 0)
        self.assert_wrong("fn f(x) = x; let a = x;", 1)
        self.assert_wrong("fn f(x) = x; fn g(y) = x;", 1)
        self.assert_wrong("fn f() = 1; let a = f;", 1)
        self.assert_wrong("fn f(x) = f;", 0)
        self.assert_wrong("fn f(x) = x; let a = f;", 1)

    def test_names_wherever_they_stand(self):
        for place in ("-b", "(b)", "1+b", "1*b", "b^2", "b/1", "if b<1 then 1 else 1", "if 1<b then 1 else 1",
                      "if 1<1 then b else 1", "if 1<1 then 1 else b", "q(b)", "q(b(1))", "q(1)+q"):
            self.assert_wrong(f"fn q(x) = x; let a = {place};", 1)

    def test_calls(self):
        self.assert_right("fn f(x) = x; let a = f(1); fn g(x, y) = f(x) + f(y) * f(1);")
        self.assert_wrong("let a = f(1);", 0)
        self.assert_wrong("let a = f(1); fn f(x) = x;", 0)
        self.assert_wrong("fn f(x) = f(x);", 0)
        self.assert_wrong("unit m; let a = m();", 1)
        self.assert_wrong("unit m; let a = m(1);", 1)
        self.assert_wrong("let b = 1; let a = b();", 1)
        self.assert_wrong("fn f(x) = x(1);", 0)
        self.assert_wrong("fn f(x) = x();", 0)

    def test_how_many_a_function_is_called_with(self):
        for parameters in range(7):
            names = ",".join(f"x{i}" for i in range(parameters))
            for given in range(9):
                call = f"fn f({names}) = 1; let a = f({','.join('1' * given)});"
                self.assertEqual(read(call), [0, 2] if given == parameters else [1, -22, 1], call)

    def test_the_first_item_that_is_not(self):
        self.assert_wrong("unit m; let a = x; let b = y;", 1)
        self.assert_wrong("unit m; let a = 1; unit a; let b = y;", 2)
        # An item that is not right is told of, whatever the items before it come to.
        self.assert_wrong("unit m; let a = m + 1; let b = y;", 2)


if __name__ == "__main__":
    unittest.main()
