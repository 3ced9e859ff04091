"""z1, z3 and the interface: untold/words.py."""

import string
import unittest
from itertools import product

from untold.errors import BadProgram
from untold.words import words_of


class Words(unittest.TestCase):
    def hold(self, line, *words):
        answer = words_of(line, 5)
        self.assertEqual(answer, words, line)
        self.assertIsInstance(answer, tuple)

    def refuse(self, line, reason, number=5):
        with self.assertRaises(BadProgram, msg=repr(line)) as caught:
            words_of(line, number)
        self.assertIs(caught.exception.__class__, BadProgram)
        self.assertEqual((caught.exception.line, caught.exception.reason), (number, reason), line)


class Right(Words):
    def test_nothing(self):
        for line in ("", " ", "       "):
            self.hold(line)

    def test_each_word(self):
        for word in ("a", "z", "abcdefgh", "input", "show", "to", "next", "inputs", "shows", "too", "nex", "0", "7",
                     "10", "99999", "10000", "=", "+", "-", "*", "(", ")"):
            self.hold(word, word)
            self.hold("   " + word + "  ", word)

    def test_with_and_without_spaces(self):
        self.hold("a=input 1", "a", "=", "input", "1")
        self.hold("a = input 1", "a", "=", "input", "1")
        self.hold("show((a+b)*-30-c)to 2", "show", "(", "(", "a", "+", "b", ")", "*", "-", "30", "-", "c", ")", "to",
            "2")
        self.hold("  show   3  *  b  to  2  ", "show", "3", "*", "b", "to", "2")
        self.hold("==+-*()(", "=", "=", "+", "-", "*", "(", ")", "(")
        self.hold("a b 1 2", "a", "b", "1", "2")
        self.hold("0*0", "0", "*", "0")

    def test_what_stands_together_is_one_word(self):
        self.hold("nextto", "nextto")
        self.hold("next to", "next", "to")
        self.hold("inputa", "inputa")

    def test_the_words_need_make_no_line(self):
        self.hold("to to next 5 ) = (", "to", "to", "next", "5", ")", "=", "(")

    def test_all_short_lines(self):
        # By trying: the words of a line are its pieces between the spaces and signs.
        for signs in product("az09=(- ", repeat=4):
            line = "".join(signs)
            right, last = [], ""
            for sign in line + " ":
                if sign in "az09":
                    last += sign
                    continue
                right.extend([last] if last else [])
                right.extend([sign] if sign != " " else [])
                last = ""
            fine = all(word in ("=", "(", "-") or word.isalpha() or word == "0" or word.isdigit() and word[0] == "9"
                       for word in right)
            if fine:
                self.hold(line, *right)
            else:
                self.refuse(line, "unknown word")


class UnknownWords(Words):
    def test_names_that_are_too_long(self):
        self.hold("abcdefgh", "abcdefgh")
        for word in ("abcdefghi", "inputinput", "a" * 100):
            self.refuse(word, "unknown word")
            self.refuse(f"a = {word} + 1", "unknown word")

    def test_numbers_that_are_too_long(self):
        for word in ("100000", "123456", "1" * 6000):
            self.refuse(word, "unknown word")
            self.refuse(f"a = 1 +{word}", "unknown word")

    def test_zeros_in_front(self):
        for word in ("00", "01", "000", "007", "00000", "09999"):
            self.refuse(word, "unknown word")

    def test_letters_and_digits_together(self):
        for word in ("a1", "1a", "input1", "to2", "a0b", "2b", "0x1", "1e5", "next0"):
            self.refuse(word, "unknown word")
            self.refuse(f"show ({word})to 1", "unknown word")


class UnknownSigns(Words):
    def test_each_sign(self):
        known = string.ascii_lowercase + string.digits + "=+-*() "
        for code in [*range(0x250), 0x661, 0xff11, 0x2003, 0x2028, 0x2212, 0x1f600]:
            sign = chr(code)
            if sign not in known:
                for line in (sign, f"a{sign}b", f"a = 1{sign}", f"{sign} next", f"1 {sign} 2"):
                    self.refuse(line, "unknown sign")

    def test_signs_come_ahead_of_words(self):
        self.refuse("01 a1 abcdefghi !", "unknown sign")
        self.refuse("! 01", "unknown sign")
        self.refuse("01!", "unknown sign")
        self.refuse("A1", "unknown sign")
        self.refuse("a_1", "unknown sign")
        self.refuse("01 + ?", "unknown sign")

    def test_the_number_of_the_line(self):
        for number in (0, 1, 2, 77, 10 ** 6):
            self.refuse("A", "unknown sign", number)
            self.refuse("00", "unknown word", number)
