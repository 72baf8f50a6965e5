"""Promise 1: of several refusals that are due, the one that comes first."""

import unittest

from helper import power_of_two, read

SHEET_IS_NONE = "let a = ;"
NINE_UNITS = "".join(f"unit u{i};" for i in range(9))
NOT_RIGHT = "let wrong = what;"
PLACES = "*".join(["0"] * 25)
LARGE = f"{power_of_two('m', 30)} * m"
MANY = "1" + "+1" * 257
UNLIKE = "(m + 1)"
ABOVE = f"({power_of_two('m', 21)} + 0)"


class Neighbours(unittest.TestCase):
    def test_bytes_before_tokens(self):
        self.assertEqual(read("?" * 8193), [1, -28, 0])
        self.assertEqual(read("?" * 8192), [1, -71, 0])

    def test_bytes_that_are_no_tokens_before_too_many_tokens(self):
        self.assertEqual(read(";" * 2049 + "?"), [1, -71, 0])
        self.assertEqual(read(";" * 2049 + "a" * 17), [1, -71, 0])
        self.assertEqual(read(";" * 2049 + "1."), [1, -71, 0])
        self.assertEqual(read("?" + ";" * 2049), [1, -71, 0])
        self.assertEqual(read(";" * 2049), [1, -28, 0])

    def test_too_many_tokens_before_no_sheet(self):
        self.assertEqual(read(SHEET_IS_NONE + "unit m;" * 681), [1, -71, 0])
        self.assertEqual(read(SHEET_IS_NONE + "unit m;" * 682), [1, -28, 0])
        self.assertEqual(read("unit m;" * 682 + SHEET_IS_NONE), [1, -28, 0])
        self.assertEqual(read("let a = " + "(" * 33 + "1" + ")" * 33 + "*1" * 1000 + ";"), [1, -28, 0])

    def test_no_sheet_before_too_many_items(self):
        self.assertEqual(read("".join(f"let a{i}=1;" for i in range(65)) + SHEET_IS_NONE), [1, -71, 0])
        self.assertEqual(read(NINE_UNITS + SHEET_IS_NONE), [1, -71, 0])
        self.assertEqual(read("fn f(a,b,c,d,e,g,h) = 1;" + SHEET_IS_NONE), [1, -71, 0])
        self.assertEqual(read(NINE_UNITS + "let a = " + "-" * 32 + "1;"), [1, -71, 0])

    def test_too_many_items_before_not_right(self):
        self.assertEqual(read(NOT_RIGHT + NINE_UNITS), [1, -28, 9])
        self.assertEqual(read(NOT_RIGHT + "".join(f"let a{i}=1;" for i in range(64))), [1, -28, 64])
        self.assertEqual(read(NOT_RIGHT + "fn f(a,a,a,a,a,a,a) = 1;"), [1, -28, 1])
        self.assertEqual(read("unit m;" * 9), [1, -28, 8])

    def test_not_right_before_what_comes_item_by_item(self):
        for text in (PLACES, LARGE, MANY, UNLIKE, ABOVE):
            self.assertEqual(read(f"unit m; let a = {text}; {NOT_RIGHT}"), [1, -22, 2], text)
            self.assertEqual(read(f"unit m; let a = ({text}) * what;"), [1, -22, 1], text)

    def test_a_25th_place_and_a_product_as_they_come(self):
        self.assertEqual(read(f"unit m; let a = {PLACES} * ({LARGE});"), [1, -28, 1])
        self.assertEqual(read(f"unit m; let a = {LARGE} * {PLACES};"), [1, -75, 1])
        # Both are gone through before they are multiplied.
        self.assertEqual(read(f"unit m; let a = {power_of_two('m', 30)} * (m * {PLACES});"), [1, -28, 1])

    def test_a_25th_place_inside_of_a_call_comes_behind_what_it_is_called_with(self):
        before = f"unit m; fn f(x) = x * {'*'.join(['0'] * 23)};"
        self.assertEqual(read(before + f"let a = 0 * f({LARGE});"), [1, -75, 2])
        self.assertEqual(read(before + f"let a = 0 * f(m) * ({LARGE});"), [1, -28, 2])

    def test_places_and_products_before_equations(self):
        self.assertEqual(read(f"unit m; let a = ({MANY}) * {LARGE};"), [1, -75, 1])
        self.assertEqual(read(f"unit m; let a = ({MANY}) * {PLACES};"), [1, -28, 1])
        for text in (UNLIKE, ABOVE):
            self.assertEqual(read(f"unit m; let a = {text} * {PLACES};"), [1, -28, 1], text)
            self.assertEqual(read(f"unit m; let a = {text} * ({LARGE});"), [1, -75, 1], text)

    def test_more_than_256_equations_before_what_they_come_to(self):
        for text in (UNLIKE, ABOVE):
            self.assertEqual(read(f"unit m; let a = {text} * ({MANY});"), [1, -28, 1], text)
            self.assertEqual(read(f"unit m; let a = ({MANY}) * {text};"), [1, -28, 1], text)

    def test_an_equations_bound_before_what_does_not_go_together(self):
        self.assertEqual(read(f"unit m; let a = {UNLIKE} * {ABOVE};"), [1, -22, 1])
        self.assertEqual(read(f"unit m; let a = {ABOVE} * {UNLIKE};"), [1, -22, 1])

    def test_an_equations_bound_before_what_is_too_large(self):
        self.assertEqual(read(f"unit m; fn f(x, y) = {self.too_large()} * {ABOVE};"), [1, -22, 1])

    def too_large(self):
        return f"((x + {power_of_two('m', 20)}) / x * (y + {power_of_two('x', 11)}))"

    def test_equation_by_equation(self):
        self.assertEqual(read(f"unit m; fn f(x, y) = {self.too_large()} * {UNLIKE};"), [1, -75, 1])
        self.assertEqual(read(f"unit m; fn f(x, y) = {UNLIKE} * {self.too_large()};"), [1, -61, 1])

    def test_too_large_at_the_moment_when_it_shows_that_none_is_alike(self):
        # The last equation has no place left, and m with an exponent above 2 ** 30.
        text = f"(x + {power_of_two('m', 20)}) * ({power_of_two('x', 11)} + 1)"
        self.assertEqual(read(f"unit m; fn f(x) = {text};"), [1, -75, 1])
        text = f"(x + {power_of_two('m', 20)}) * ({power_of_two('x', 10)} + 1)"
        self.assertEqual(read(f"unit m; fn f(x) = {text};"), [1, -61, 1])

    def test_filling_too_large_at_the_moment_when_a_mark_is_left(self):
        # y is x ^ (2 ** 20); then x ^ 2 is m ^ odd, which no x gives, but y would be above its bound before.
        for power, number in ((11, -61), (12, -75)):
            text = f"(y + {power_of_two('x', 20)}) / y * (x ^ 2 + {power_of_two('m', power)} / m)"
            self.assertEqual(read(f"unit m; fn f(x, y) = {text};"), [1, number, 1])

    def test_what_equations_come_to_before_what_is_told(self):
        told = f"{power_of_two('x', 20)} * (x + {power_of_two('m', 11)})"
        self.assertEqual(read(f"unit m; fn f(x) = {told};"), [1, -75, 1])
        self.assertEqual(read(f"unit m; fn f(x) = {told} * {UNLIKE};"), [1, -61, 1])
        self.assertEqual(read(f"unit m; fn f(x) = {told} * {ABOVE};"), [1, -22, 1])
        self.assertEqual(read(f"unit m; fn f(x) = {told} * ({MANY});"), [1, -28, 1])

    def test_item_by_item(self):
        told = f"{power_of_two('x', 20)} * (x + {power_of_two('m', 11)})"
        late = (("-28", PLACES), ("-75", LARGE), ("-28", MANY), ("-61", UNLIKE), ("-22", ABOVE), ("-75", told))
        for first, one in late:
            for second, other in late:
                text = f"unit m; fn f(x) = {one}; fn g(x) = {other};"
                self.assertEqual(read(text), [1, int(first), 1])


if __name__ == "__main__":
    unittest.main()
