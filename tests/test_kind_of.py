"""Promise 2: un_kind_of, number by number; its refusals, and the corners of both parts of the document."""

import itertools
import unittest

from helper import Guarded, kind_of, kinds, power_of_two, read, sheet, solvable, told
from sheetunits.desk import un_kind_of, un_read

MOST_K = 4294967295
TOLD = 2 ** 20
LIMIT = 2 ** 30
NOTHING = ([], [])


def mark(*exponents):
    return (list(exponents), [])


def place(*exponents):
    return ([], list(exponents))


class TellsKinds(unittest.TestCase):
    def assert_last(self, text, places, of, comes):
        last = text.count(";") - 1
        self.assertEqual(kind_of(last, text), told(places, of, comes), text)
        self.assertEqual(read(text), [0, last + 1], text)

    def assert_refused(self, text, number):
        for k in (0, 1, 2, 63, 64, MOST_K):
            self.assertEqual(kind_of(k, text), [0, number], text)


class Numbers(TellsKinds):
    def test_a_unit(self):
        self.assertEqual(kind_of(0, "unit m;"), [
            2, 0, 0, 0,
            8, 1, 0, 0, 0, 0, 0, 0, 0,
            24, 0, 0, 0, 0, 0, 0, 0, 0, 0, 0, 0, 0, 0, 0, 0, 0, 0, 0, 0, 0, 0, 0, 0, 0])

    def test_an_amount(self):
        self.assertEqual(kind_of(2, "unit m; unit s; let v = 3 * m / s ^ 2 * 0;"), [
            2, 0, 1, 0,
            8, 1, -2, 0, 0, 0, 0, 0, 0,
            24, 1, 0, 0, 0, 0, 0, 0, 0, 0, 0, 0, 0, 0, 0, 0, 0, 0, 0, 0, 0, 0, 0, 0, 0])

    def test_a_function(self):
        self.assertEqual(kind_of(1, "unit m; fn f(x, y) = x / m + y ^ 2;"), [
            2, 2, 1, 2,
            8, 1, 0, 0, 0, 0, 0, 0, 0,
            24, 2, 0, 0, 0, 0, 0, 0, 0, 0, 0, 0, 0, 0, 0, 0, 0, 0, 0, 0, 0, 0, 0, 0, 0,
            8, 0, 0, 0, 0, 0, 0, 0, 0,
            24, 1, 0, 0, 0, 0, 0, 0, 0, 0, 0, 0, 0, 0, 0, 0, 0, 0, 0, 0, 0, 0, 0, 0, 0,
            8, 0, 0, 0, 0, 0, 0, 0, 0,
            24, 2, 0, 0, 0, 0, 0, 0, 0, 0, 0, 0, 0, 0, 0, 0, 0, 0, 0, 0, 0, 0, 0, 0, 0])

    def test_a_function_without_parameters(self):
        self.assert_last("unit m; fn f() = 2 * m;", 0, [], mark(1))
        self.assert_last("unit m; fn f() = 0 / m;", 1, [], ([-1], [1]))

    def test_a_function_with_6_parameters(self):
        text = "unit m; unit s; fn f(a, b, c, d, e, g) = a * b ^ 2 / c ^ 3 * (d + m * e) / s;"
        self.assert_last(text, 5, [place(1), place(0, 1), place(0, 0, 1), ([1], [0, 0, 0, 1]), place(0, 0, 0, 1),
                                   place(0, 0, 0, 0, 1)], ([1, -1], [1, 2, -3, 1]))
        self.assertEqual(len(kind_of(2, text)), 4 + 7 * (1 + 8 + 1 + 24))

    def test_every_number_of_parameters(self):
        for count in range(7):
            names = [f"x{i}" for i in range(count)]
            of = [place(*[0] * i, 1) for i in range(count)]
            self.assert_last(f"fn f({', '.join(names)}) = {' * '.join(names + ['1'])};", count, of, place(*[1] * count))

    def test_all_8_marks(self):
        text = "".join(f"unit u{i};" for i in range(8))
        for k in range(8):
            self.assertEqual(kind_of(k, text), told(0, [], mark(*[0] * k, 1)))
        product = " * ".join(f"u{i} ^ {i + 1}" for i in range(8))
        self.assert_last(text + f"let a = {product};", 0, [], mark(1, 2, 3, 4, 5, 6, 7, 8))

    def test_all_24_places(self):
        zeros = " * ".join(f"0 ^ {1 + i % 9}" for i in range(24))
        self.assert_last(f"let a = {zeros};", 24, [], place(*[1 + i % 9 for i in range(24)]))
        zeros = " * ".join("0" for i in range(18))
        self.assert_last(f"fn f(a, b, c, d, e, g) = {zeros};", 24, [place(*[0] * i, 1) for i in range(6)],
                         place(*[0] * 6, *[1] * 18))

    def test_every_item_of_a_sheet(self):
        text = "let one = 1; unit m; fn f(x) = x / m; unit s; let z = 0; fn g(x, y) = f(x) + y; let a = g(m * s, z);"
        self.assertEqual([kind_of(k, text) for k in range(7)], [
            told(0, [], NOTHING),
            told(0, [], mark(1)),
            told(1, [place(1)], ([-1], [1])),
            told(0, [], mark(0, 1)),
            told(1, [], place(1)),
            told(1, [place(1), ([-1], [1])], ([-1], [1])),
            told(0, [], mark(0, 1))])

    def test_no_place_left_one_and_several(self):
        self.assert_last("unit m; fn f(x, y) = if x < m then x * y else m ^ 3;", 0, [mark(1), mark(2)], mark(3))
        self.assert_last("unit m; fn f(x, y) = x + y * m;", 1, [([1], [1]), place(1)], ([1], [1]))
        self.assert_last("unit m; fn f(x, y, z) = x / y * (z + m) * 0;", 3, [place(1), place(0, 1), mark(1)],
                         ([1], [1, -1, 1]))

    def test_places_that_are_in_nothing_told_are_not_counted(self):
        self.assert_last("let a = if 0 < 0 then 1 else 2;", 0, [], NOTHING)
        self.assert_last("let z = 0 * 0; let a = if z < z then 0 else z;", 2, [], place(1, 1))
        self.assert_last("fn f(x) = if 0 < 0 then x else x;", 1, [place(1)], place(1))

    def test_answers_are_lists_of_whole_numbers(self):
        for k, text in ((0, "unit m;"), (1, "unit m; fn f(x) = x + m * 0;"), (1, "unit m;"), (0, "?"), (0, "")):
            answer = kind_of(k, text)
            self.assertIs(type(answer), list)
            self.assertEqual({type(number) for number in answer}, {int})


class NumberedAnew(TellsKinds):
    def test_in_another_order_than_they_were_made_in(self):
        # x is what the 0, made last, is; so that place comes first.
        self.assert_last("fn f(x, y) = (x + 0) * y ^ 2;", 2, [place(1), place(0, 1)], place(1, 2))
        self.assert_last("fn f(x, y, z) = (x + 0 ^ 2) * (y + 0 ^ 3) * z ^ 5;", 3,
                         [place(2), place(0, 3), place(0, 0, 1)], place(2, 3, 5))
        self.assert_last("fn f(x, y, z) = (y + 0) / (x + 0) ^ 2 * z;", 3,
                         [place(1), place(0, 1), place(0, 0, 1)], place(-2, 1, 1))

    def test_the_parameters_come_before_what_comes(self):
        self.assert_last("fn f(x) = 0 * (x + 0 ^ 2);", 2, [place(2)], place(2, 1))
        self.assert_last("fn f(x) = 0 ^ 5 * x;", 2, [place(1)], place(1, 5))
        self.assert_last("let a = 0 ^ 2 * 0 ^ 3;", 2, [], place(2, 3))

    def test_in_each_by_their_numbers(self):
        self.assert_last("fn f(x, y, z) = x + z ^ 3 * y ^ 2;", 2, [place(2, 3), place(1), place(0, 1)], place(2, 3))
        self.assert_last("let z = 0 / 0 ^ 2; fn f(x) = (x + z) * z;", 4, [place(1, -2)], place(1, -2, 1, -2))

    def test_places_that_went_leave_no_gap(self):
        self.assert_last("fn f(x, y, z) = (y + 1) * z;", 2, [place(1), NOTHING, place(0, 1)], place(0, 1))
        self.assert_last("let a = (0 + 1) * 0 * (0 + 1) * 0 ^ 2;", 2, [], place(1, 2))

    def test_an_item_that_is_used_again_has_its_new_numbers(self):
        before = "fn f(x, y) = (x + 0) * y ^ 2;"
        self.assert_last(before + "fn g(u, v) = f(v, u);", 2, [place(1), place(0, 1)], place(2, 1))
        self.assert_last(before + "unit m; unit s; let a = f(m, s);", 0, [], mark(1, 2))
        self.assert_last("let z = (0 + 1) * 0 ^ 2 / 0 ^ 3; fn g(x) = x + z;", 2, [place(2, -3)], place(2, -3))

    def test_arguments_places_come_before_the_functions(self):
        # Which of the places went, and so the exponents of the one left, shows which were made first.
        self.assert_last("fn f(x, y) = x ^ 2 + y ^ 3; fn g(u, v) = f(v, u);", 1, [place(-2), place(-3)], place(-6))
        self.assert_last("fn f(x, y) = x ^ 2 + y ^ 3; let a = f(0, 0);", 1, [], place(-6))
        self.assert_last("fn f(x) = x ^ 2; fn g(y) = f(y ^ 3) + f(0 ^ 2);", 1, [place(-2)], place(-12))


class Refusals(TellsKinds):
    """Every refusal of promise 1 is its number alone, whatever k is."""

    def assert_refused_as_read(self, text, number):
        self.assertEqual(read(text)[:2], [1, number], text)
        self.assert_refused(text, number)
        for k in (read(text)[2], max(0, read(text)[2] - 1), read(text)[2] + 1):
            self.assertEqual(kind_of(k, text), [0, number], text)

    def test_bytes(self):
        self.assert_refused_as_read("unit m;".ljust(8193), -28)
        self.assert_refused_as_read(" " * 8300, -28)
        self.assert_refused_as_read("?" * 8193, -28)
        self.assertEqual(kind_of(0, "unit m;".ljust(8192)), told(0, [], mark(1)))

    def test_tokens(self):
        for text in ("?", "unit M;", "unit m; let a = 1.;", "unit m; let a = .5;", "unit " + "a" * 17 + ";", "unit _a;",
                     "unit m; let a = " + "1" * 16 + ";", "unit m;\tunit s;", "unit m; let a = 1 > 2;"):
            self.assert_refused_as_read(text, -71)
        for byte in (0, 9, 13, 127, 128, 255):
            self.assertEqual(un_kind_of(0, sheet("unit m;") + [byte]), [0, -71])

    def test_how_many_tokens(self):
        self.assert_refused_as_read("let a = 1" + "*1" * 1022 + ";", -28)
        self.assertEqual(kind_of(0, "let a = -1" + "*1" * 1021 + ";"), told(0, [], NOTHING))

    def test_no_sheet(self):
        for text in ("unit m", "unit m;;", "let a = ;", "unit m; let a = m ^ 0;", "unit m; let a = m ^ 10;", "fn f = 1;",
                     "let a = if 1 < 2 then 3;", "unit m; let a = m +", "unit if;", "fn f(x,) = 1;"):
            self.assert_refused_as_read(text, -71)

    def test_too_deep(self):
        self.assert_refused_as_read("unit m; let a = " + "(" * 32 + "m" + ")" * 32 + ";", -71)
        self.assert_refused_as_read("unit m; let a = " + "-" * 32 + "m;", -71)
        self.assert_last("unit m; let a = " + "(" * 31 + "m" + ")" * 31 + ";", 0, [], mark(1))

    def test_items_units_and_parameters(self):
        self.assert_refused_as_read("".join(f"let a{i} = 1;" for i in range(65)), -28)
        self.assert_refused_as_read("".join(f"unit u{i};" for i in range(9)), -28)
        self.assert_refused_as_read("unit m; fn f(a, b, c, d, e, g, h) = 1;", -28)

    def test_not_right(self):
        for text in ("unit m; unit m;", "unit m; let m = 1;", "fn f(x, x) = x;", "unit m; fn f(m) = m;", "let a = b;",
                     "let a = a;", "fn f(x) = f(x);", "fn f(x) = x; let a = f;", "fn f(x) = x; let a = f();",
                     "fn f(x) = x; let a = f(1, 1);", "unit m; let a = m();"):
            self.assert_refused_as_read(text, -22)

    def test_places(self):
        self.assert_refused_as_read("unit m; let a = m;" + "let b = " + "*".join(["0"] * 25) + ";", -28)
        self.assert_refused_as_read("fn f(x) = x * " + "*".join(["0"] * 24) + ";", -28)

    def test_products(self):
        big = power_of_two("m", 30)
        for text in (f"{big} * m", f"1 / m / {big}", f"({power_of_two('m', 29)}) ^ 3", f"({power_of_two('m', 29)}) ^ -3"):
            self.assert_refused_as_read(f"unit m; let a = {text};", -75)
            self.assert_refused_as_read(f"fn f(m) = {text};", -75)

    def test_equations(self):
        self.assert_refused_as_read("unit m; let a = m" + "+m" * 257 + ";", -28)
        self.assert_last("unit m; let a = m" + "+m" * 256 + ";", 0, [], mark(1))

    def test_what_the_equations_come_to(self):
        self.assert_refused_as_read("unit m; let a = m + 1;", -61)
        self.assert_refused_as_read("unit m; fn f(x) = x ^ 2 + m;", -61)
        self.assert_refused_as_read(f"unit m; fn f(x) = x + m * {power_of_two('m', 20)};", -22)
        one, other = power_of_two("m", 20), power_of_two("x", 11)
        self.assert_refused_as_read(f"unit m; fn f(x, y) = (x + {one}) * 0 * (y + {other});", -75)
        one, other = power_of_two("x", 20), power_of_two("m", 11)
        self.assert_refused_as_read(f"unit m; fn f(x, y) = (y + {one}) * 0 * (x + {other});", -75)

    def test_what_is_told(self):
        self.assert_refused_as_read(f"unit m; fn f(x) = {power_of_two('x', 20)} * (x + {power_of_two('m', 11)});", -75)

    def test_an_item_before_the_refused_one_is_not_told_of(self):
        good = "unit m; fn f(x) = x * m; let b = f(m);"
        for text, number in (("let a = m + 1;", -61), ("let a = c;", -22), ("let a", -71), ("!", -71)):
            for k in range(5):
                self.assertEqual(kind_of(k, good + text), [0, number])


class NoSuchItem(TellsKinds):
    def test_just_past_the_last_item(self):
        items = ["unit m;", "let z = 0;", "fn f(x) = x * m;", "unit s;", "let v = m / s;"]
        lasts = [told(0, [], mark(1)), told(1, [], place(1)), told(1, [place(1)], ([1], [1])), told(0, [], mark(0, 1)),
                 told(0, [], mark(1, -1))]
        for count in range(1, 6):
            text = "".join(items[:count])
            self.assertEqual(kind_of(count - 1, text), lasts[count - 1])
            for k in (count, count + 1, 63, 64, 2 ** 31, 2 ** 31 + count, MOST_K - 1, MOST_K):
                self.assertEqual(kind_of(k, text), [0, -2])

    def test_64_items(self):
        text = "".join(f"let a{i} = 1;" for i in range(63)) + "fn f(x) = x ^ 2;"
        self.assertEqual(kind_of(63, text), told(1, [place(1)], place(2)))
        self.assertEqual(kind_of(64, text), [0, -2])
        self.assertEqual(kind_of(MOST_K, text), [0, -2])

    def test_the_empty_sheet(self):
        for text in ("", " ", "\n", " " * 8192):
            for k in (0, 1, 63, MOST_K):
                self.assertEqual(kind_of(k, text), [0, -2])


class Corners(TellsKinds):
    """The corners of "What unit comes out"."""

    def test_zero(self):
        for zero in ("0", "0.0", "00", "-0", "(0.00)", "0.00000000000000"):
            self.assert_last(f"let z = {zero};", 1, [], place(1))
            self.assert_last(f"unit m; let z = {zero} + m;", 0, [], mark(1))
        for number in ("1", "0.1", "10.0", "0.00000000000001"):
            self.assert_last(f"let z = {number};", 0, [], NOTHING)

    def test_x_and_zero(self):
        self.assert_last("fn f(x) = x + 0;", 1, [place(1)], place(1))
        self.assert_last("fn f(x) = 0.0 - x;", 1, [place(1)], place(1))

    def test_square(self):
        self.assert_last("fn sq(x) = x * x;", 1, [place(1)], place(2))

    def test_one_place_of_two_parameters(self):
        self.assert_last("fn h(x, y) = x ^ 2 + y ^ 3;", 1, [place(-3), place(-2)], place(-6))

    def test_none_left(self):
        self.assert_last("fn k(x) = x * x + 1;", 0, [NOTHING], NOTHING)

    def test_called_with_its_own_result(self):
        self.assert_last("fn sq(x) = x * x; fn f(x) = sq(sq(x));", 1, [place(1)], place(4))
        self.assert_last("unit m; fn sq(x) = x * x; let a = sq(sq(sq(m)));", 0, [], mark(8))
        self.assert_last("fn h(x, y) = x ^ 2 + y ^ 3; fn f(x, y, z) = h(h(x, y), z);", 1,
                         [place(-3), place(-2), place(-4)], place(-12))

    def test_not_used(self):
        self.assert_last("fn f(x) = 1;", 1, [place(1)], NOTHING)
        self.assert_last("fn f(x, y) = y;", 2, [place(1), place(0, 1)], place(0, 1))
        self.assert_last("unit m; fn f(x, y, z) = m * y;", 3, [place(1), place(0, 1), place(0, 0, 1)], ([1], [0, 1]))

    def test_a_units_name_as_a_parameter(self):
        self.assert_refused("unit m; fn f(m) = m;", -22)
        self.assert_last("fn f(m) = m; unit m;", 0, [], mark(1))
        self.assertEqual(kind_of(0, "fn f(m) = m; unit m;"), told(1, [place(1)], place(1)))

    def test_to_the_power_of_minus_one(self):
        self.assert_last("fn f(x) = x ^ -1;", 1, [place(1)], place(-1))
        self.assert_last("unit m; let a = m ^ -1;", 0, [], mark(-1))

    def test_a_name_of_16_bytes(self):
        self.assert_last("unit abcdefghijklmnop; let a23456789_123456 = abcdefghijklmnop; let b = a23456789_123456;",
                         0, [], mark(1))
        self.assert_last("fn abcdefghijklmnop(ponmlkjihgfedcba) = ponmlkjihgfedcba;", 1, [place(1)], place(1))
        self.assert_refused("unit abcdefghijklmnopq;", -71)


class CornersOfBalance(TellsKinds):
    """The corners of "Powers in balance", as items whose equations they are."""

    def assert_both_ways(self, product, places, of, parameters):
        # product + 1 is the equation as it stands, 1 + product the one with all signs turned.
        for text in (f"{product} + 1", f"1 + {product}", f"{product} + 1 - {product} + 1", f"1 / ({product}) + 1"):
            self.assert_last(f"unit m; fn f({parameters}) = {text};", places, of, NOTHING)

    def test_no_equation(self):
        self.assert_last("fn f(x, y) = x * y / 2;", 2, [place(1), place(0, 1)], place(1, 1))
        self.assert_last("let a = 1;", 0, [], NOTHING)

    def test_no_place(self):
        self.assert_last("unit m; let a = m + 2 * m - m;", 0, [], mark(1))
        self.assert_refused("unit m; unit s; let a = m + s;", -61)

    def test_two_p_and_a_mark(self):
        for text in ("p ^ 2 * m + 1", "1 + p ^ 2 * m", "p ^ 2 + m", "p ^ -2 + m", "p ^ 2 + m ^ -3"):
            self.assert_refused(f"unit m; fn f(p) = {text};", -61)
        self.assert_both_ways("p ^ 2 * m ^ 2", 0, [mark(-1)], "p")
        self.assert_both_ways("p ^ 2 / m ^ 6", 0, [mark(3)], "p")

    def test_two_p_and_three_q(self):
        self.assert_both_ways("p ^ 2 * q ^ 3", 1, [place(3), place(-2)], "p, q")
        self.assert_both_ways("p ^ 3 * q ^ 2", 1, [place(-2), place(3)], "p, q")
        self.assert_both_ways("p ^ 2 * q ^ 3 * m", 1, [([1], [3]), ([-1], [-2])], "p, q")

    def test_six_ten_fifteen(self):
        product = "p ^ 6 * (q ^ 5) ^ 2 * (r ^ 5) ^ 3"
        self.assert_both_ways(product, 2, [place(5, -5), place(0, -3), place(-2, 4)], "p, q, r")

    def test_a_place_in_no_equation(self):
        self.assert_both_ways("q", 2, [place(1), NOTHING, place(0, 1)], "p, q, r")
        self.assert_both_ways("q ^ 2 * r ^ 3", 2, [place(1), place(0, 3), place(0, -2)], "p, q, r")

    def test_told_again_or_coming_of_the_others(self):
        before = "fn f(p, q, r) = (p * q + r) / r * (q ^ 2 + r ^ 3)"
        kind = (2, [place(1), place(-3), place(-2)], place(-6, 1))
        self.assert_last(f"{before} * 0;", *kind)
        for more in ("p * q + r", "r + p * q", "p ^ 2 * q ^ 2 + r ^ 2", "p * q ^ 3 + r ^ 4", "p * r ^ 2 + q"):
            self.assert_last(f"{before} * (if {more} < 0 then 0 else 0);", *kind)
        self.assert_last(f"{before} * (if p + q < 0 then 0 else 0);", 1, [NOTHING, NOTHING, NOTHING], place(1))

    def test_exponents_at_their_bounds(self):
        big = power_of_two("m", 20)
        self.assert_last(f"unit m; fn f(x) = x + {big};", 0, [mark(TOLD)], mark(TOLD))
        self.assert_last(f"unit m; fn f(x) = x + 1 / {big};", 0, [mark(0 - TOLD)], mark(0 - TOLD))
        self.assert_last(f"fn f(x) = {power_of_two('x', 20)} + 1;", 0, [NOTHING], NOTHING)
        self.assert_last(f"fn f(x, y) = y + {power_of_two('x', 20)};", 1, [place(1), place(TOLD)], place(TOLD))
        self.assert_last(f"fn f(x, y) = y + 1 / {power_of_two('x', 20)};", 1, [place(1), place(0 - TOLD)], place(0 - TOLD))
        for text in (f"x + m * {big}", f"x + 1 / m / {big}", f"y + x * {power_of_two('x', 20)}"):
            self.assert_refused(f"unit m; fn f(x, y) = {text};", -22)

    def test_what_is_told_at_its_bounds(self):
        self.assert_last(f"unit m; fn f(x) = {power_of_two('(x / m)', 30)};", 1, [place(1)], ([0 - LIMIT], [LIMIT]))
        text = f"(x + {power_of_two('m', 20)}) * 0 * (y + {power_of_two('x', 10)})"
        self.assert_last(f"unit m; fn f(x, y) = {text} / x;", 1, [mark(TOLD), mark(LIMIT)], ([LIMIT], [1]))
        self.assert_refused(f"unit m; fn f(x, y) = {text};", -75)


class StepByStep(TellsKinds):
    """Fillings that other ways of solving give otherwise: as general, but not what is told."""

    def test_of_several_as_near_the_first(self):
        self.assert_last("fn f(x, y) = x * y + 1;", 1, [place(-1), place(1)], NOTHING)
        self.assert_last("fn f(x, y, z) = x ^ 2 / y * z + 1;", 2, [place(1), place(2, 1), place(0, 1)], NOTHING)

    def test_rounded_down(self):
        self.assert_last("fn f(x, y) = x ^ 2 / y ^ 3 + 1;", 1, [place(-3), place(-2)], NOTHING)
        self.assert_last("fn f(x, y) = y ^ 3 / x ^ 2 + 1;", 1, [place(-3), place(-2)], NOTHING)

    def test_marks_are_divided_with_the_places(self):
        self.assert_last("unit m; fn f(x, y) = x ^ 2 * y ^ 3 / m + 1;", 1, [([2], [3]), ([-1], [-2])], NOTHING)

    def test_a_place_can_be_filled_with_several_that_one_could_stand_for(self):
        # x is place 1 at first; place 1 is then the first of those in the call of k, so x is all the others.
        text = "fn f(x) = 0 / 0 * x; fn k(x, y) = 1; fn g(x) = k(f(x), 0);"
        self.assert_last(text, 3, [place(-1, 1, 1)], NOTHING)

    def test_equation_by_equation(self):
        self.assert_last("fn f(p, q, r) = (p * q + r) / r * (q ^ 2 + r ^ 3);", 1, [place(1), place(-3), place(-2)], place(-6))
        self.assert_last("fn f(p, q, r) = (q ^ 2 + r ^ 3) * (p * q + r) / r;", 1, [place(1), place(-3), place(-2)], place(-6))


class GoesTogether(unittest.TestCase):
    """What holds a and b: a function can be called with just those kinds that come of what is told."""

    FUNCTIONS = ("fn f(x) = x + 0;", "fn f(x) = x * x;", "fn f(x, y) = x ^ 2 + y ^ 3;", "fn f(x) = x * x + 1;",
                 "fn f(x, y) = y;", "fn f(x, y) = x / m + y ^ 2;", "fn f(x, y, z) = if x < y * m then z else x * y;",
                 "fn f(x, y, z) = x ^ 2 * y ^ 3 / z ^ 4 + m;", "fn f(x, y, z) = x * y ^ 2 + z ^ 3;")

    def power(self, exponent):
        return f"m ^ {exponent}" if exponent else "1"

    def test_called_with_any_powers(self):
        for function in self.FUNCTIONS:
            kind = kinds(f"unit m; {function}")[1]
            spread = [one[8:8 + kind.places] for one in kind.of]
            for powers in itertools.product(range(-4, 5), repeat=kind.parameters):
                call = f"unit m; {function} let a = f({', '.join(self.power(power) for power in powers)});"
                comes_of_it = solvable(spread, kind.places, [power - one[0] for power, one in zip(powers, kind.of)])
                self.assertEqual(read(call), [0, 3] if comes_of_it else [1, -61, 2], call)

    def test_whatever_the_places_are_filled_with(self):
        for function in self.FUNCTIONS:
            kind = kinds(f"unit m; {function}")[1]
            for fill in itertools.product((-2, 0, 1), repeat=kind.places):
                filled = [one[0] + sum(a * b for a, b in zip(one[8:], fill)) for one in kind.of + [kind.comes]]
                arguments = ", ".join(self.written(power) for power in filled[:-1])
                call = f"unit m; {function} let a = f({arguments});"
                self.assertEqual(kind_of(2, call), told(0, [], mark(filled[-1])), call)

    def written(self, power):
        turned = "1 / " if power < 0 else ""
        return turned + "(" + " * ".join(["1"] + ["m"] * abs(power)) + ")"


class HandedIn(unittest.TestCase):
    SHEETS = ("", "unit m; fn f(x) = x + m; let a = f(0);", "unit m; let a = m + 1;", "?", "let a = 0 +", " " * 8200,
              "let a = b;", f"unit m; let a = m * {power_of_two('m', 30)};")

    def test_it_is_the_same_list_with_the_same_numbers(self):
        for text in self.SHEETS:
            for k in (0, 1, 2, 3, MOST_K):
                t = sheet(text)
                kept = list(t)
                first = un_kind_of(k, t)
                self.assertEqual(t, kept)
                self.assertEqual(un_kind_of(k, t), first)
                self.assertIsNot(first, t)

    def test_it_is_not_changed_for_a_while_either(self):
        for text in self.SHEETS:
            for k in (0, 1, 2, 3, MOST_K):
                self.assertEqual(un_kind_of(k, Guarded(sheet(text))), kind_of(k, text))

    def test_nothing_is_kept_from_one_time_to_the_next(self):
        texts = ("unit m; let a = m;", "fn m(a) = a; fn a(x, y) = x + y ^ 2;", "unit a; unit m;", "let m = 0;", "?")
        answers = [told(0, [], mark(1)), told(1, [place(2), place(1)], place(2)), told(0, [], mark(0, 1)), [0, -2], [0, -71]]
        for first in range(len(texts)):
            for second in range(len(texts)):
                self.assertEqual(kind_of(1, texts[first]), answers[first])
                un_read(sheet(texts[first]))
                self.assertEqual(kind_of(1, texts[second]), answers[second])

    def test_an_answer_that_is_changed_changes_no_later_one(self):
        for k, text in ((0, "unit m;"), (0, "fn f(x) = x;"), (1, "unit m;"), (0, "?")):
            kept = list(kind_of(k, text))
            answer = kind_of(k, text)
            answer[:] = [number + 1 for number in answer] + [7]
            self.assertEqual(kind_of(k, text), kept)


class BehindASheet(unittest.TestCase):
    """What holds d."""

    ITEMS = ("unit m;", "fn sq(x) = x * x;", "let z = 0;", "unit s;", "let v = m / s;", "fn f(x, y) = sq(x) + y * v;",
             "fn g(x) = f(x, z) - 1;", "let a = sq(v) * sq(s);", "fn h(p, q) = if p < q then f(p, q) else 0;")

    def test_the_kinds_before_stay_as_they_are(self):
        for count in range(len(self.ITEMS)):
            before = "".join(self.ITEMS[:count])
            for behind in ("".join(self.ITEMS[count:]), self.ITEMS[count], "unit other;", "fn k(x, y) = x * y + 0;", " \n"):
                for k in range(count):
                    self.assertEqual(kind_of(k, before + behind), kind_of(k, before))
                    self.assertEqual(kind_of(k, before)[0], 2)


if __name__ == "__main__":
    unittest.main()
