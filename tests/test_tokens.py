"""Promise 1: bytes and tokens."""

import unittest

from helper import Guarded, read, sheet
from sheetunits.desk import un_read
from sheetunits.tokens import tokens_of

NO_SHEET = [1, -71, 0]
TOO_MUCH = [1, -28, 0]


def amount(number):
    return read(f"let a = {number};")


class Bytes(unittest.TestCase):
    def test_empty_and_blank(self):
        self.assertEqual(un_read([]), [0, 0])
        self.assertEqual(read(" \n \n"), [0, 0])

    def test_8192_and_8193_bytes(self):
        self.assertEqual(read("unit m;".ljust(8192)), [0, 1])
        self.assertEqual(read("unit m;".ljust(8193)), TOO_MUCH)
        self.assertEqual(read(" " * 8192), [0, 0])
        self.assertEqual(read(" " * 8193), TOO_MUCH)
        self.assertEqual(read(" " * 8300), TOO_MUCH)

    def test_every_byte_by_itself(self):
        for byte in range(256):
            answer = [0, 0] if byte in (10, 32) else NO_SHEET
            self.assertEqual(un_read([byte]), answer, byte)

    def test_a_byte_that_begins_no_token(self):
        good = sheet("unit m;") + [32] + sheet("let a = m;")
        allowed = sheet("abcdefghijklmnopqrstuvwxyz0123456789_(),;=+-*/^<. \n")
        for byte in range(256):
            if byte not in allowed:
                self.assertEqual(un_read(good[:7] + [byte] + good[8:]), NO_SHEET, byte)
                self.assertEqual(un_read(good + [byte]), NO_SHEET, byte)
                self.assertEqual(un_read([byte] + good), NO_SHEET, byte)

    def test_every_space_may_be_a_newline_or_many(self):
        text = "unit m; fn f ( x , y ) = if x < y then x * 2.5 else - y / 1 ; let a = f ( m , m ) ^ - 2 ;"
        for gap in (" ", "\n", " \n  \n"):
            self.assertEqual(read(text.replace(" ", gap)), [0, 3])
        self.assertEqual(read("unit m;fn f(x,y)=if x<y then x*2.5else-y/1;let a=f(m,m)^-2;"), [0, 3])

    def test_what_is_handed_in_is_not_changed(self):
        for text in ("", "unit m; let a = m;", "unit m; let a = m + 1;", "?", "let a = 0 +", " " * 8200):
            t = sheet(text)
            first = un_read(t)
            self.assertEqual(t, sheet(text))
            self.assertEqual(un_read(t), first)

    def test_what_is_handed_in_is_not_changed_for_a_while_either(self):
        self.assertEqual(un_read(Guarded(sheet("unit m; fn f(x) = x + m; let a = f(0);"))), [0, 3])
        self.assertEqual(un_read(Guarded(sheet("unit m; let a = m + 1;"))), [1, -61, 1])

    def test_nothing_is_kept_from_one_time_to_the_next(self):
        texts = ("unit m; let a = m;", "let a = m;", "unit m; unit a;", "fn a(m) = m;", "?", "unit m; let b = a;", "")
        answers = [[0, 2], [1, -22, 0], [0, 2], [0, 1], [1, -71, 0], [1, -22, 1], [0, 0]]
        for first in range(len(texts)):
            for second in range(len(texts)):
                self.assertEqual(read(texts[first]), answers[first])
                self.assertEqual(read(texts[second]), answers[second])

    def test_kinds_of_answers(self):
        for text in ("", "unit m;", "unit m; let a = m + 1;", "?"):
            answer = read(text)
            self.assertIs(type(answer), list)
            self.assertEqual({type(number) for number in answer}, {int})


class Names(unittest.TestCase):
    def test_16_and_17_bytes(self):
        for letters in ("abcdefghijklmnopq", "a0123456789_____9", "a" * 17, "thenthenthenthent"):
            self.assertEqual(read(f"unit {letters[:16]}; let x = {letters[:16]};"), [0, 2])
            self.assertEqual(read(f"unit {letters};"), NO_SHEET)
            self.assertEqual(read(f"unit {letters[:15]}; let {letters[:16]} = {letters[:15]};"), [0, 2])

    def test_what_a_name_begins_with(self):
        for name in ("a", "z", "a_", "a__b", "z9", "a0z"):
            self.assertEqual(read(f"unit {name};"), [0, 1], name)
        for name in ("_", "_a", "9a", "A", "aB", "a.b", "a-b"):
            self.assertEqual(read(f"unit {name};"), NO_SHEET, name)

    def test_words_are_no_names(self):
        for word in ("unit", "let", "fn", "if", "then", "else"):
            self.assertEqual(read(f"unit {word};"), NO_SHEET, word)
            self.assertEqual(read(f"let {word} = 1;"), NO_SHEET, word)
            self.assertEqual(read(f"fn {word}() = 1;"), NO_SHEET, word)
            self.assertEqual(read(f"fn f({word}) = 1;"), NO_SHEET, word)
            self.assertEqual(read(f"let a = {word};"), NO_SHEET, word)
            self.assertEqual(read(f"unit {word}_; unit {word}0; unit a{word};"), [0, 3], word)

    def test_a_token_is_as_long_as_it_can_be(self):
        self.assertEqual(tokens_of(sheet("letx 2then 0.5else+-a1")), [
            ("name", "letx"), ("number", "2"), ("then", "then"), ("number", "0.5"), ("else", "else"),
            ("+", "+"), ("-", "-"), ("name", "a1")])
        self.assertEqual(read("letx = 1;"), NO_SHEET)
        self.assertEqual(read("let x = 1; let y = x1;"), [1, -22, 1])
        self.assertEqual(read("let a=if 1<2then 3else 4;"), [0, 1])
        self.assertEqual(read("let a=if 1<2then3 else 4;"), NO_SHEET)


class Numbers(unittest.TestCase):
    def test_15_and_16_digits(self):
        for number in ("1" * 15, "1" * 14 + ".1", "1." + "1" * 14, "12345678.1234567", "0" * 15):
            self.assertEqual(amount(number), [0, 1], number)
        for number in ("1" * 16, "1" * 15 + ".1", "1." + "1" * 15, "12345678.12345678", "0" * 16, "0." + "0" * 15):
            self.assertEqual(amount(number), NO_SHEET, number)

    def test_a_point_without_digits_on_both_sides(self):
        for number in (".", "1.", ".1", "1 .1", "1. 1", "1..1", "1.1.1", "1.1.", "1.a", "a.1", "1.*2"):
            self.assertEqual(amount(number), NO_SHEET, number)
        self.assertEqual(read("let a = 1."), NO_SHEET)

    def test_what_stands_right_behind_a_number_is_no_part_of_it(self):
        for letter in "abcdefghijklmnopqrstuvwxyz_":
            self.assertEqual(amount(f"1{letter}"), NO_SHEET, letter)
            self.assertEqual(amount(f"0.5{letter}"), NO_SHEET, letter)

    def test_ordinary_ones(self):
        for number in ("1", "0", "007", "0.0", "10.010", "3.14"):
            self.assertEqual(amount(number), [0, 1], number)


class HowManyTokens(unittest.TestCase):
    def test_2048_and_2049(self):
        fits = "let a = -1" + "*1" * 1021 + ";"
        self.assertEqual(len(tokens_of(sheet(fits))), 2048)
        self.assertEqual(read(fits), [0, 1])
        self.assertEqual(read("let a = 1" + "*1" * 1022 + ";"), TOO_MUCH)

    def test_each_sort_of_token_counts(self):
        for token in ("a", "1", "0.5", "if", ";", "("):
            tokens = (token + " ") * 2048
            self.assertEqual(read(tokens), NO_SHEET, token)
            self.assertEqual(read(tokens + ";"), TOO_MUCH, token)


if __name__ == "__main__":
    unittest.main()
