"""Promise 1 and "Kinds": what an item's kinds come to, and what is refused item by item."""

import unittest

from helper import kinds, power_of_two, product, read

LIMIT = 2 ** 30


class Corners(unittest.TestCase):
    def assert_kind(self, text, of, comes, places):
        kind = kinds(text)[-1]
        self.assertEqual(kind.of, of, text)
        self.assertEqual(kind.comes, comes, text)
        self.assertEqual(kind.places, places, text)
        self.assertEqual(read(text), [0, text.count(";")], text)

    def test_units_are_the_marks_in_order(self):
        text = "unit a; let x = 1; unit b; fn f() = a / b; unit c;"
        self.assertEqual([kind.comes for kind in kinds(text)],
                         [product([1]), product(), product([0, 1]), product([1, -1]), product([0, 0, 1])])
        self.assert_kind("".join(f"unit u{i};" for i in range(8)), [], product([0] * 7 + [1]), 0)

    def test_zero_has_any_unit(self):
        for zero in ("0", "0.0", "00", "000.000", "0.00000000000000", "-0", "(0)"):
            self.assert_kind(f"let z = {zero};", [], product([], [1]), 1)
            self.assertEqual(read(f"let z = {zero}; unit m; let a = z + m; let b = z + 1;"), [0, 4])

    def test_any_other_number_has_none(self):
        for number in ("1", "10", "0.1", "100.0", "0.00000000000001", "01", "9"):
            self.assert_kind(f"let z = {number};", [], product(), 0)
            self.assertEqual(read(f"unit m; let a = {number} + m;"), [1, -61, 1])

    def test_x_and_zero(self):
        self.assert_kind("fn f(x) = x + 0;", [product([], [1])], product([], [1]), 1)
        self.assertEqual(read("fn f(x) = x + 0; unit m; unit s; let a = f(m) / m + f(s) / s;"), [0, 4])

    def test_square(self):
        self.assert_kind("fn sq(x) = x * x;", [product([], [1])], product([], [2]), 1)
        self.assertEqual(read("fn sq(x) = x * x; unit m; let a = sq(m) + m ^ 2;"), [0, 3])
        self.assertEqual(read("fn sq(x) = x * x; unit m; let a = sq(m) + m;"), [1, -61, 2])

    def test_one_place_for_two_parameters(self):
        self.assert_kind("fn h(x, y) = x ^ 2 + y ^ 3;", [product([], [-3]), product([], [-2])], product([], [-6]), 1)
        self.assertEqual(read("fn h(x, y) = x ^ 2 + y ^ 3; unit m; let a = h(m ^ 3, m * m) + m ^ 6;"), [0, 3])
        self.assertEqual(read("fn h(x, y) = x ^ 2 + y ^ 3; unit m; let a = h(m, m);"), [1, -61, 2])

    def test_no_place_left(self):
        self.assert_kind("fn k(x) = x * x + 1;", [product()], product(), 0)
        self.assertEqual(read("fn k(x) = x * x + 1; unit m; let a = k(m);"), [1, -61, 2])
        self.assertEqual(read("fn k(x) = x * x + 1; unit m; let a = k(m / m) + k(0);"), [0, 3])

    def test_a_function_called_with_its_own_result(self):
        self.assert_kind("fn sq(x) = x * x; unit m; let a = sq(sq(m));", [], product([4]), 0)
        self.assert_kind("fn inv(x) = 1 / x; fn f(x) = inv(inv(inv(x)));", [product([], [1])], product([], [-1]), 1)

    def test_a_parameter_that_is_not_used(self):
        self.assert_kind("fn f(x) = 1;", [product([], [1])], product(), 1)
        self.assert_kind("fn f(x, y) = y;", [product([], [1]), product([], [0, 1])], product([], [0, 1]), 2)
        self.assertEqual(read("fn f(x) = 1; unit m; let a = f(m) + f(m * m) + f(0);"), [0, 3])

    def test_a_units_name_as_a_parameter(self):
        self.assertEqual(read("unit m; fn f(m) = m;"), [1, -22, 1])

    def test_a_power_below_zero(self):
        self.assert_kind("fn f(x) = x ^ -1;", [product([], [1])], product([], [-1]), 1)
        self.assertEqual(read("unit m; let a = m ^ -1 + 1 / m;"), [0, 2])
        self.assertEqual(read("unit m; let a = m ^ -1 + m;"), [1, -61, 1])

    def test_a_name_of_16_bytes(self):
        self.assert_kind("unit abcdefghijklmnop; let a = abcdefghijklmnop;", [], product([1]), 0)

    def test_operations(self):
        before = "unit a; unit b;"
        for text, marks in (("a * b", [1, 1]), ("a / b", [1, -1]), ("a / b / b", [1, -2]), ("a / (b / a)", [2, -1]),
                            ("a * b ^ 3", [1, 3]), ("(a * b) ^ 3", [3, 3]), ("(a / b) ^ -2", [-2, 2]), ("-a", [1]),
                            ("-a ^ 2", [2]), ("--a * -b", [1, 1]), ("a + a", [1]), ("a - a * 3", [1]),
                            ("if a < a then b else b", [0, 1]), ("a ^ 9", [9]), ("a ^ -9", [-9]), ("2 * a", [1]),
                            ("a * 0 + b", [0, 1]), ("if a < 0 then 0 else b", [0, 1]), ("0 + b", [0, 1])):
            self.assert_kind(f"{before} let x = {text};", [], product(marks), 0)

    def test_an_amount_has_new_places_each_time(self):
        self.assert_kind("let z = 0; let a = z * z;", [], product([], [1, 1]), 2)
        self.assert_kind("let p = 0 / 0 ^ 2; fn f(x) = p * x;",
                         [product([], [1])], product([], [1, 1, -2]), 3)

    def test_a_parameter_has_the_same_place_each_time(self):
        self.assertEqual(read("unit m; unit s; fn f(x) = (x + m) * (x + s);"), [1, -61, 2])
        self.assertEqual(read("unit m; unit s; let x = 0; let f = (x + m) * (x + s);"), [0, 4])

    def test_places_are_numbered_anew(self):
        self.assert_kind("fn f(x, y, z) = (x + y * z) * 0;",
                         [product([], [1, 1]), product([], [1]), product([], [0, 1])], product([], [1, 1, 1]), 3)
        self.assert_kind("fn f(x, y, z) = (x + 1) * (0 + z) * 0;",
                         [product(), product([], [1]), product([], [0, 1])], product([], [0, 1, 1]), 3)

    def test_what_comes_of_if_and_sums_is_what_stands_first(self):
        # Beyond its bound a power is seen at once, but an equation's exponent only at the item's end.
        big = power_of_two("x", 30)
        self.assertEqual(read(f"fn f(x) = (0 + {big}) * x;"), [1, -22, 0])
        self.assertEqual(read(f"fn f(x) = ({big} + 0) * x;"), [1, -75, 0])
        self.assertEqual(read(f"fn f(x) = (if 1 < 1 then 0 else {big}) * x;"), [1, -22, 0])
        self.assertEqual(read(f"fn f(x) = (if 1 < 1 then {big} else 0) * x;"), [1, -75, 0])


class NotAlike(unittest.TestCase):
    def test_each_way_of_telling_alike(self):
        for text in ("m + s", "m - s", "m + m + s", "m + 1", "if m < s then 1 else 1", "if 1 < 1 then m else s", "g(s)",
                     "g(m) + s", "t(m, s)", "t(m, m) + s", "m * s + m", "m ^ 2 + m", "-(m + s)", "0 * (m + s)"):
            sheet = f"unit m; unit s; fn g(x) = x + m; fn t(x, y) = x + y; let a = {text}; let b = a;"
            self.assertEqual(read(sheet), [1, -61, 4], text)

    def test_what_has_no_whole_root(self):
        self.assertEqual(read("unit m; fn f(x) = x ^ 2 + m;"), [1, -61, 1])
        self.assertEqual(read("unit m; fn f(x) = x ^ 2 + m ^ 2;"), [0, 2])
        self.assertEqual(read("unit m; fn f(x, y) = x ^ 2 * y ^ 4 + m;"), [1, -61, 1])
        self.assertEqual(read("unit m; fn f(x, y) = x ^ 2 * y ^ 3 + m;"), [0, 2])

    def test_the_first_item_that_does_not(self):
        self.assertEqual(read("unit m; let a = m; let b = m + 1; let c = m + 1;"), [1, -61, 2])
        self.assertEqual(read("unit m; let a = m + 1;"), [1, -61, 1])
        self.assertEqual(read("unit m; let a = m; fn f(x) = x * (x + m) + x;"), [1, -61, 2])

    def test_calls_tell_every_argument_alike(self):
        before = "unit m; fn f(x, y, z) = if x < m then y / m else z / m ^ 2;"
        self.assertEqual(read(before + "let a = f(m, m, m ^ 2);"), [0, 3])
        for arguments in ("1, m, m ^ 2", "m, 1, m ^ 2", "m, m, m", "m, m ^ 2, m"):
            self.assertEqual(read(before + f"let a = f({arguments});"), [1, -61, 2])


class Places(unittest.TestCase):
    def test_24_and_25(self):
        self.assertEqual(read("let a = " + "*".join(["0"] * 24) + ";"), [0, 1])
        self.assertEqual(read("let a = " + "*".join(["0"] * 25) + ";"), [1, -28, 0])
        self.assertEqual(read("let a = " + "+".join(["0"] * 24) + ";"), [0, 1])
        self.assertEqual(read("unit m; let a = m + " + "+".join(["0"] * 25) + ";"), [1, -28, 1])

    def test_parameters_have_places(self):
        self.assertEqual(read("fn f(a,b,c,d,e,g) = " + "+".join(["0"] * 18) + ";"), [0, 1])
        self.assertEqual(read("fn f(a,b,c,d,e,g) = " + "+".join(["0"] * 19) + ";"), [1, -28, 0])

    def test_amounts_have_places(self):
        before = "let z = 0 * 0 / 0;"
        self.assertEqual(read(before + "let a = " + "*".join(["z"] * 8) + ";"), [0, 2])
        self.assertEqual(read(before + "let a = " + "*".join(["z"] * 9) + ";"), [1, -28, 1])
        self.assertEqual(read(before + "let a = 0 + " + "+".join(["z"] * 8) + ";"), [1, -28, 1])
        self.assertEqual(read("let z = " + "*".join(["0"] * 24) + "; let a = z + z;"), [1, -28, 1])

    def test_calls_have_the_functions_places(self):
        before = "fn f(x, y) = x; unit m;"
        self.assertEqual(read(before + "let a = " + "*".join(["f(m, m)"] * 12) + ";"), [0, 3])
        self.assertEqual(read(before + "let a = 0 *" + "*".join(["f(m, m)"] * 12) + ";"), [1, -28, 2])
        self.assertEqual(read(before + "let a = " + "*".join(["f(m, m)"] * 12) + "* 0;"), [1, -28, 2])
        self.assertEqual(read("fn f(x) = x; let a = " + "f(" * 24 + "1" + ")" * 24 + ";"), [0, 2])
        self.assertEqual(read("fn f(x) = x; let a = " + "f(" * 25 + "1" + ")" * 25 + ";"), [1, -28, 1])

    def test_what_has_no_places_left_needs_none(self):
        self.assertEqual(read("fn k(x, y) = x + y + 1; let z = 0 + 1; let a = " + "+".join(["k(z, 1)"] * 50) + ";"), [0, 3])
        self.assertEqual(read("unit m; fn f(x) = " + "*".join(["x*m*1"] * 50) + ";"), [0, 2])

    def test_each_item_counts_anew(self):
        self.assertEqual(read("".join(f"let a{i} = {'*'.join(['0'] * 24)};" for i in range(20))), [0, 20])


class Products(unittest.TestCase):
    """-75 where *, / or ^ makes an exponent above 2 ** 30 or below -2 ** 30."""

    def test_times(self):
        for name in ("m", "x"):
            big = power_of_two(name, 30)
            self.assertEqual(read(f"unit m; fn f(x) = {big};"), [0, 2])
            self.assertEqual(read(f"unit m; fn f(x) = {big} * 1;"), [0, 2])
            self.assertEqual(read(f"unit m; fn f(x) = {big} * {name};"), [1, -75, 1])
            self.assertEqual(read(f"unit m; fn f(x) = {name} * {big};"), [1, -75, 1])
            self.assertEqual(read(f"unit m; fn f(x) = {big} * {name} / {name};"), [1, -75, 1])
            self.assertEqual(read(f"unit m; fn f(x) = {big} / {name} * {name};"), [0, 2])

    def test_divided(self):
        for name in ("m", "x"):
            small = power_of_two(f"{name} ^ -1", 30)
            self.assertEqual(read(f"unit m; fn f(x) = {small};"), [0, 2])
            self.assertEqual(read(f"unit m; fn f(x) = {small} / {name};"), [1, -75, 1])
            self.assertEqual(read(f"unit m; fn f(x) = 1 / {power_of_two(name, 30)};"), [0, 2])
            self.assertEqual(read(f"unit m; fn f(x) = 1 / {name} / {power_of_two(name, 30)};"), [1, -75, 1])
            self.assertEqual(read(f"unit m; fn f(x) = {power_of_two(name, 30)} / {name} ^ -1;"), [1, -75, 1])
            self.assertEqual(read(f"unit m; fn f(x) = {small} * {name} ^ -1;"), [1, -75, 1])

    def test_raised(self):
        for name in ("m", "x"):
            half = power_of_two(name, 29)
            self.assertEqual(read(f"unit m; fn f(x) = ({half}) ^ 2;"), [0, 2])
            self.assertEqual(read(f"unit m; fn f(x) = ({half}) ^ -2;"), [0, 2])
            self.assertEqual(read(f"unit m; fn f(x) = ({half}) ^ 3;"), [1, -75, 1])
            self.assertEqual(read(f"unit m; fn f(x) = ({half}) ^ -3;"), [1, -75, 1])
            self.assertEqual(read(f"unit m; fn f(x) = ({half} * {half}) ^ 1;"), [0, 2])

    def test_each_exponent_by_itself(self):
        self.assertEqual(read(f"unit m; unit s; fn f(x) = {power_of_two('(m / s * x)', 30)};"), [0, 3])
        self.assertEqual(read(f"unit m; unit s; fn f(x) = {power_of_two('(m / s * x)', 30)} / s;"), [1, -75, 2])
        self.assertEqual(read(f"unit m; unit s; fn f(x) = {power_of_two('(m / s * x)', 30)} * s;"), [0, 3])

    def test_what_is_not_used_counts_too(self):
        self.assertEqual(read(f"unit m; fn f(x) = ({power_of_two('m', 30)}) * m / m ^ 9 / m;"), [1, -75, 1])

    def test_kinds_at_the_bound_can_be_used_again(self):
        text = f"unit m; fn big(x) = {power_of_two('x', 30)}; let a = {power_of_two('m', 30)};"
        self.assertEqual(kinds(text)[1].comes, product([], [LIMIT]))
        self.assertEqual(kinds(text)[2].comes, product([LIMIT]))
        self.assertEqual(read(text + "let b = a / m; fn g(x) = big(x) / x; let c = 1 / big(m);"), [0, 6])
        self.assertEqual(read(text + "let b = m * a;"), [1, -75, 3])
        self.assertEqual(read(text + "fn g(x) = big(x) * x;"), [1, -75, 3])
        self.assertEqual(read(text + "fn g(x, y) = big(x) * big(y);"), [0, 4])


class Equations(unittest.TestCase):
    def test_256_and_257(self):
        self.assertEqual(read("let a = 1" + "+1" * 256 + ";"), [0, 1])
        self.assertEqual(read("let a = 1" + "+1" * 257 + ";"), [1, -28, 0])
        self.assertEqual(read("unit m; let a = m" + "-m" * 257 + ";"), [1, -28, 1])

    def test_every_way_of_telling_counts(self):
        rest = "+1" * 254
        self.assertEqual(read(f"let a = if 1 < 1 then 1 else 1 {rest};"), [0, 1])
        self.assertEqual(read(f"let a = if 1 < 1 then 1 else 1 {rest} + 1;"), [1, -28, 0])
        self.assertEqual(read(f"fn f(x, y) = 1; let a = f(1, 1) {rest};"), [0, 2])
        self.assertEqual(read(f"fn f(x, y) = 1; let a = f(1, 1) {rest} + 1;"), [1, -28, 1])
        self.assertEqual(read(f"fn f() = 1; let a = f() {rest} + 1 + 1;"), [0, 2])

    def test_each_item_counts_anew(self):
        self.assertEqual(read("".join(f"let {name} = 1{'+1' * 256};" for name in "abc")), [0, 3])


class OfEquations(unittest.TestCase):
    """What is answered of an item's equations, and of what is told."""

    def test_exponents_at_their_bound(self):
        for name in ("m", "x"):
            big = power_of_two(name, 20)
            for text in (f"{big} + 0", f"0 + {big}", f"{big} * m / m + 0"):
                self.assertEqual(read(f"unit m; fn f(x) = {text};"), [0, 2], text)
            for text in (f"{big} * {name} + 0", f"0 + {big} * {name}", f"1 / {name} / {big} - 0", f"{name} ^ -1 + {big}",
                         f"if {big} < {name} ^ -1 then 1 else 1", f"k({big} * {name})"):
                self.assertEqual(read(f"unit m; fn k(z) = 1; fn f(x) = {text};"), [1, -22, 2], text)

    def test_an_equation_may_go_beyond_what_a_product_may(self):
        big = power_of_two("x", 30)
        self.assertEqual(read(f"fn f(x) = {big} + ({big}) ^ -1;"), [1, -22, 0])

    def test_rest_beyond_the_bound(self):
        # x is m ^ (2 ** 20), so what is left of the second equation has 2 ** 20 times x's exponent there.
        for text, answer in ((power_of_two("x", 10), [0, 2]), (power_of_two("x ^ -1", 10), [0, 2]),
                             (power_of_two("x", 10) + "* m", [1, -75, 1]), (power_of_two("x", 10) + "/ m", [0, 2]),
                             (power_of_two("x ^ -1", 10) + "/ m", [1, -75, 1]), (power_of_two("x", 11), [1, -75, 1])):
            sheet = f"unit m; fn f(x, y) = if x < {power_of_two('m', 20)} then (y + {text}) * 0 else 0;"
            self.assertEqual(read(sheet), answer, text)

    def test_filling_beyond_the_bound(self):
        # y is x ^ (2 ** 20) when x turns out to be m ^ (2 ** 11); what is left of that equation is small.
        for power, answer in ((10, [0, 2]), (11, [1, -75, 1])):
            for name in ("m", "m ^ -1"):
                text = f"if y < {power_of_two('x', 20)} then (x + {power_of_two(name, power)}) * 0 else 0"
                self.assertEqual(read(f"unit m; fn f(x, y) = {text};"), answer)

    def test_told_beyond_the_bound(self):
        for power, answer in ((10, [0, 2]), (11, [1, -75, 1])):
            for name in ("m", "m ^ -1"):
                text = f"if x < {power_of_two(name, power)} then {power_of_two('x', 20)} else {power_of_two('x', 20)}"
                self.assertEqual(read(f"unit m; fn f(x) = {text};"), answer)

    def test_told_just_at_and_above_the_bound(self):
        # The pair that is told alike has small exponents; what comes is the product beside it.
        text = f"{power_of_two('x', 20)} * (x + {power_of_two('m', 10)}) / x"
        self.assertEqual(kinds(f"unit m; fn f(x) = {text};")[1].comes, product([LIMIT]))
        self.assertEqual(read(f"unit m; fn f(x) = {text};"), [0, 2])
        self.assertEqual(read(f"unit m; fn f(x) = {text} * m;"), [1, -75, 1])
        self.assertEqual(read(f"unit m; fn f(x) = ({text}) ^ -1;"), [0, 2])
        self.assertEqual(read(f"unit m; fn f(x) = ({text}) ^ -1 / m;"), [1, -75, 1])


class BehindASheet(unittest.TestCase):
    def test_what_is_put_behind_changes_nothing_of_what_is_before(self):
        items = ["unit m;", "fn sq(x) = x * x;", "let z = 0;", "unit s;", "let v = m / s;", "fn f(x, y) = sq(x) + y * v;",
                 "fn g(x) = f(x, z) - 1;", "let a = sq(v) * sq(s);", "fn h(p, q) = if p < q then f(p, q) else 0;"]
        whole = kinds("".join(items))
        for count in range(len(items) + 1):
            before = kinds("".join(items[:count]))
            self.assertEqual([kind.told for kind in before], [kind.told for kind in whole[:count]])
            self.assertEqual(read("".join(items[:count])), [0, count])

    def test_a_refused_item_stays_the_one_refused(self):
        for text, number in (("let b = m + 1;", -61), ("let b = " + "0*" * 24 + "0;", -28),
                             (f"let b = {power_of_two('m', 30)} * m;", -75), ("let b = 1" + "+1" * 257 + ";", -28),
                             (f"let b = {power_of_two('m', 21)} + 0;", -22)):
            before = "unit m; let a = m;"
            self.assertEqual(read(before + text), [1, number, 2])
            self.assertEqual(read(before + text + "let c = b; unit s; let d = m + 1;"), [1, number, 2])

    def test_a_refusal_behind_is_told_of_what_is_behind(self):
        before = "unit m; let a = m;"
        for text, number in (("let b = a + 1;", -61), ("let b = c;", -22), ("unit a;", -22)):
            self.assertEqual(read(before + text), [1, number, 2])


if __name__ == "__main__":
    unittest.main()
