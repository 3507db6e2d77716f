"""The calls read and write: promise 3, the scale's order of promise 1, and where a text's fault is."""

import random
import re
import unittest
from fractions import Fraction

from tests.asking import (
    HUGE, PRIMES, ask, ask_one, fraction, read, read_bytes, row_of, scale_after, text_of, told_text, write,
)
from tests.test_sizes import CLOSEST, halved

NUMBER = "[1-9][0-9]{0,39}"
FRACTION = f"{NUMBER}(?:/{NUMBER})?"
# what a text without a wrong byte may begin with
BEGINNING = re.compile(f"[ \n]*(?:{FRACTION}[ \n]+)*(?:{NUMBER}(?:/(?:{NUMBER})?)?)?")
MAJOR = "9/8 5/4 4/3 3/2 5/3 15/8 2"
# 24 notes, each higher than the one before
STAIRS = [Fraction(8 + k, 8) for k in (1, 2, 4, 6, 7, 8, 10, 12, 13, 14, 16, 17, 18, 20, 22, 24, 25, 27, 28, 31)]
STAIRS = STAIRS + [Fraction(5), Fraction(6), Fraction(7), Fraction(8)]


def has_row(whole):
    """Whether the fraction has a sound row."""
    try:
        return max(map(abs, row_of(whole))) <= 8
    except AssertionError:
        return False


def told_fault(text):
    """The least place of all that the document calls a fault; None if there's none."""
    places = [at for at in range(len(text)) if not BEGINNING.fullmatch(text[:at + 1])][:1]
    if not places and text.endswith("/"):
        places.append(len(text))
    before = Fraction(1)
    words = []
    for found in re.finditer("[^ \n]+", text):
        if not re.fullmatch(FRACTION, found.group()):
            break
        whole = Fraction(found.group())
        words.append((found.start(), whole))
        if not has_row(whole) or whole <= before or len(words) == 25:
            places.append(found.start())
        before = whole
    if places:
        return min(places)
    if not words:
        return len(text)
    return words[-1][0] if words[-1][1] < Fraction(5, 4) else None


class TextTest(unittest.TestCase):
    def assert_read(self, text, notes=None):
        """The text is read as these notes, which are fractions; as those it has if none are told."""
        wanted = [Fraction(word) for word in text.split()] if notes is None else notes
        told = ask(read(text), write())
        self.assertEqual(told[0], [len(wanted)], repr(text))
        self.assertEqual(told_text(told[1]), " ".join(str(note) for note in wanted), repr(text))

    def assert_fault(self, text, place):
        self.assertEqual(ask(read(text), write()), [[-8, place], [-5]], repr(text))
        self.assertEqual(told_fault(text), place, repr(text))


class ReadTest(TextTest):
    def test_ordinary(self):
        self.assertEqual(ask_one(read(MAJOR)), [7])
        self.assert_read(MAJOR)
        self.assert_read("2")
        self.assert_read("3/2")
        self.assert_read("16/15 9/8 6/5 5/4 4/3 45/32 3/2 8/5 5/3 9/5 15/8 2/1")

    def test_reads_anew(self):
        self.assertEqual(scale_after(read(MAJOR), read("3/2 2")), "3/2 2")

    def test_no_fraction(self):
        self.assert_fault("", 0)
        self.assert_fault(" ", 1)
        self.assert_fault("\n", 1)
        self.assert_fault("  \n \n", 5)
        self.assert_fault(" " * 2000, 2000)

    def test_blanks(self):
        for text in (" 5/4 2", "5/4 2 ", "\n5/4\n2\n", "  \n 5/4 \n\n  2   ", "5/4     2", "5/4\n2"):
            self.assert_read(text, [Fraction(5, 4), Fraction(2)])
        for sign in "\t\r\v\f\0":
            self.assert_fault("5/4" + sign + "2", 3)
            self.assert_fault(sign + "5/4 2", 0)

    def test_bytes_that_stand_nowhere(self):
        allowed = [ord(sign) for sign in "0123456789/ \n"]
        for byte in range(256):
            if byte not in allowed:
                beginnings = [[], [51], [51, 47], [51, 47, 50], [51, 32]]
                told = ask(*[read_bytes(beginning + [byte]) for beginning in beginnings])
                self.assertEqual(told, [[-8, len(beginning)] for beginning in beginnings])

    def test_24_and_25(self):
        self.assertEqual(len(STAIRS), 24)
        text = " ".join(str(note) for note in STAIRS)
        self.assert_read(text)
        self.assert_fault(text + " 9", len(text) + 1)
        self.assert_fault(text + "  9 10 11", len(text) + 2)
        # a wrong byte within the 25th: it isn't whole, so it isn't looked at
        self.assert_fault(text + " 9x", len(text) + 2)
        self.assert_fault(text + " 9/", len(text) + 3)
        self.assert_fault(text + " x", len(text) + 1)

    def test_length(self):
        self.assert_read(" " * 1999 + "2", [Fraction(2)])
        self.assert_read("5/4" + " " * 1996 + "2", [Fraction(5, 4), Fraction(2)])
        for text in (" " * 2000 + "2", "2" + " " * 2000, " " * 2001, "x" * 2001, "2 " * 5000):
            self.assertEqual(ask(read(text), write()), [[-1], [-5]])
        self.assert_fault("x" * 2000, 0)

    def test_no_bytes(self):
        for wrong in (-1, 256, 257, 1000, HUGE, -HUGE):
            for numbers in ([wrong], [50, wrong], [wrong, 50], [50] + [32] * 1998 + [wrong]):
                self.assertEqual(ask(read_bytes(numbers), write()), [[-1], [-5]])
            # ahead of the fault, wherever it is
            self.assertEqual(ask_one(read_bytes([120, wrong])), [-1])
        self.assertEqual(ask_one(read_bytes([0])), [-8, 0])
        self.assertEqual(ask_one(read_bytes([50, 255])), [-8, 1])

    def test_40_and_41_digits(self):
        long = 2 * 10 ** 39
        self.assertEqual(len(str(long)), 40)
        self.assert_read(f"{long}/{10 ** 39}", [Fraction(2)])
        self.assert_read(f"3/2 {long}/{10 ** 39} 3", [Fraction(3, 2), Fraction(2), Fraction(3)])
        self.assert_fault(f"{long}", 0)
        self.assert_fault(f"{long}0", 40)
        self.assert_fault(f"{long}0/{10 ** 40}", 40)
        self.assert_fault(f"1/{long}", 0)
        self.assert_fault(f"1/{long}0", 42)
        self.assert_fault(f"3/2 {long}/{long}0", 85)
        self.assert_fault(f"3/2 {long}/{10 ** 39}00", 85)
        self.assert_fault("9" * 2000, 40)
        self.assert_fault("9" * 40, 0)
        self.assert_fault("9" * 40 + "x", 40)
        self.assert_fault("9" * 40 + "/", 41)

    def test_begins_with_0(self):
        self.assert_fault("0", 0)
        self.assert_fault("02", 0)
        self.assert_fault("3/02", 2)
        self.assert_fault("3/0", 2)
        self.assert_fault("3/2 02", 4)
        self.assert_fault("3/2 0/1", 4)
        self.assert_read("10/8 20/10", [Fraction(5, 4), Fraction(2)])

    def test_slash(self):
        self.assert_fault("/", 0)
        self.assert_fault("/2", 0)
        self.assert_fault("3/2 /2", 4)
        self.assert_fault("3/", 2)
        self.assert_fault("3/ ", 2)
        self.assert_fault("3/ 2", 2)
        self.assert_fault("3/\n2", 2)
        self.assert_fault("3 /2", 2)
        self.assert_fault("3//2", 2)
        self.assert_fault("3/2/", 3)
        self.assert_fault("3/2/1", 3)
        self.assert_fault("3/2 4/", 6)
        self.assert_fault("3/2/ x", 3)

    def test_not_in_lowest_terms(self):
        self.assert_read("6/4 4/2", [Fraction(3, 2), Fraction(2)])
        self.assert_read("30030/20020", [Fraction(3, 2)])
        self.assert_read("2/1 9/3", [Fraction(2), Fraction(3)])
        # neither number by itself has a sound row
        self.assert_read(f"{3 ** 30}/{3 ** 29 * 2}", [Fraction(3, 2)])

    def test_prime_above_13(self):
        self.assert_fault("17", 0)
        self.assert_fault("17/16 2", 0)
        self.assert_fault("3/2 34/17 19", 10)
        self.assert_fault("3/2 32/17", 4)
        self.assert_fault("289/136", 0)
        self.assert_fault(f"{10 ** 39 + 7}/{10 ** 38}", 0)
        self.assert_read("51/34 34/17", [Fraction(3, 2), Fraction(2)])
        big = 10 ** 38 + 7
        self.assert_read(f"{3 * big}/{2 * big}", [Fraction(3, 2)])
        self.assert_fault(f"{3 * big}/{2 * big + 2}", 0)

    def test_row_that_is_not_sound(self):
        for prime in PRIMES:
            self.assert_read(str(prime ** 8))
            self.assert_fault(str(prime ** 9), 0)
            self.assert_read(f"{30030 ** 8 // prime ** 8}/{prime ** 8}")
            self.assert_fault(f"{30030 ** 8 // prime ** 8}/{prime ** 9}", 0)
        self.assert_fault("3/2 512", 4)
        self.assert_fault(f"5/4 {3 ** 9}/512 2", 4)

    def test_largest(self):
        self.assertEqual(ask(read(str(30030 ** 8)), write())[0], [1])
        self.assert_read(str(30030 ** 8))

    def test_not_higher_than_the_one_before(self):
        self.assert_fault("3/2 5/4", 4)
        self.assert_fault("3/2 3/2", 4)
        self.assert_fault("3/2 6/4 2", 4)
        self.assert_fault("5/4 3/2 4/3 2", 8)
        self.assert_fault("2 1", 2)
        self.assert_fault("2 1/2", 2)

    def test_first_not_higher_than_1(self):
        self.assert_fault("1", 0)
        self.assert_fault("1/1 2", 0)
        self.assert_fault("2/2 2", 0)
        self.assert_fault(" 1/2 2", 1)
        self.assert_fault("80/81 2", 0)
        self.assert_read("81/80 2")

    def test_very_close_notes(self):
        for row in CLOSEST:
            low, high = sorted(halved(row), key=fraction)
            if fraction(low) < 1:
                low, high = [-x for x in high], [-x for x in low]
            self.assertLess(fraction(low), fraction(high))
            text = text_of([low, high])
            if fraction(high) >= Fraction(5, 4):
                self.assert_read(text)
            wrong = text_of([high, low])
            self.assert_fault(wrong, wrong.index(" ") + 1)

    def test_period(self):
        self.assert_read("5/4")
        self.assert_read("10/8", [Fraction(5, 4)])
        self.assert_read("81/80 5/4")
        self.assert_fault("6/5", 0)
        self.assert_fault("81/80 6/5", 6)
        self.assert_fault(" 10/9  6/5 ", 7)
        # just beside 5/4
        for near in (Fraction(4375, 4374), Fraction(2401, 2400), Fraction(123201, 123200)):
            higher = Fraction(5, 4) * near
            lower = Fraction(5, 4) / near
            self.assert_read(f"{higher.numerator}/{higher.denominator}")
            self.assert_fault(f"{lower.numerator}/{lower.denominator}", 0)

    def test_more_than_one_fault(self):
        self.assert_fault("6/5 x", 4)
        self.assert_fault("6/5", 0)
        self.assert_fault("6/5 ", 0)
        self.assert_fault("6/5x", 3)
        self.assert_fault("17 x", 0)
        self.assert_fault("17x", 2)
        self.assert_fault("17/x", 3)
        self.assert_fault("17/", 3)
        self.assert_fault("17/16/ 19", 5)
        self.assert_fault("3/2 17 0", 4)
        self.assert_fault("3/2 0 17", 4)
        self.assert_fault("3/2 5/4 17", 4)
        self.assert_fault("3/2 4/3x 17", 7)
        self.assert_fault("1 6/5", 0)
        self.assert_fault("7/6 6/5 8/7", 8)
        self.assert_fault("x 17", 0)
        self.assert_fault("512/17/", 6)

    def test_refused_leaves_the_scale(self):
        for text in ("", "6/5", "x", "2 3 x", "3 2", "17", "3/", "2 512", " ".join(map(str, STAIRS + [9])), "2" * 41):
            told = ask(read(MAJOR), read(text), write())
            self.assertEqual(told[1], [-8, told_fault(text)])
            self.assertEqual(told_text(told[2]), MAJOR)
        for numbers in ([50] * 2001, [-1], [50, 256]):
            told = ask(read(MAJOR), read_bytes(numbers), write())
            self.assertEqual(told[1], [-1])
            self.assertEqual(told_text(told[2]), MAJOR)

    def test_any_bytes(self):
        source = random.Random(9)
        seen = set()
        for turn in range(1500):
            text = "".join(source.choice("1234589/  \n0x") for at in range(source.randint(0, 8)))
            fault = told_fault(text)
            seen.add(fault)
            self.assertEqual(ask_one(read(text)), [len(text.split())] if fault is None else [-8, fault], repr(text))
        self.assertGreater(len(seen), 8)

    def test_any_fractions(self):
        source = random.Random(10)
        kept = 0
        for turn in range(600):
            words = sorted(source.sample(STAIRS, source.randint(1, 6)))
            if source.randint(0, 3) == 0:
                other = source.choice((Fraction(17, 3), Fraction(512), Fraction(6, 5)))
                words.insert(source.randint(0, len(words)), other)
            common = source.randint(1, 40)
            texts = [f"{word.numerator * common}/{word.denominator * common}" for word in words]
            text = source.choice(("", " ")) + source.choice((" ", "\n", "  ")).join(texts) + source.choice(("", "\n"))
            if source.randint(0, 3) == 0:
                at = source.randint(0, len(text))
                text = text[:at] + source.choice("0x/1 ") + text[at:]
            fault = told_fault(text)
            kept += fault is None
            if fault is None:
                self.assert_read(text)
            else:
                self.assert_fault(text, fault)
        self.assertGreater(kept, 200)
        self.assertLess(kept, 500)


class WriteTest(TextTest):
    def test_ordinary(self):
        self.assertEqual(ask(read("3/2 2"), write())[1], [5, 51, 47, 50, 32, 50])
        self.assertEqual(ask(read("2"), write())[1], [1, 50])
        self.assertEqual(ask(read(" 6/4\n\n4/2 "), write())[1], [5, 51, 47, 50, 32, 50])
        self.assertEqual(scale_after(read(MAJOR)), MAJOR)

    def test_lower_number_1_is_not_written(self):
        self.assertEqual(scale_after(read("3/2 2/1 3/1 8/2")), "3/2 2 3 4")

    def test_twice(self):
        told = ask(read(MAJOR), write(), write())
        self.assertEqual(told[1], told[2])

    def test_longest(self):
        # rows of large exponents, close to one another: as many signs as notes can have
        source = random.Random(11)
        notes = set()
        while len(notes) < 24:
            whole = fraction([source.choice((-8, 8)) for prime in PRIMES])
            notes.add(max(whole, 1 / whole))
        text = " ".join(str(note) for note in sorted(notes))
        self.assert_read(text)

    def test_is_read_back(self):
        source = random.Random(12)
        for turn in range(100):
            notes = set()
            for wanted in range(source.randint(1, 24)):
                whole = fraction([source.randint(-8, 8) for prime in PRIMES])
                notes.add(max(whole, 1 / whole))
            notes.discard(Fraction(1))
            notes.add(Fraction(30030 ** 8))
            if len(notes) > 24:
                continue
            told = ask(read(" ".join(str(note) for note in sorted(notes))), write())
            again = ask(read("2"), read_bytes(told[1][1:]), write())
            self.assertEqual(told[0], [len(notes)])
            self.assertEqual(again[1:], told)

    def test_no_scale(self):
        self.assertEqual(ask_one(write()), [-5])
        self.assertEqual(ask(read("x"), write()), [[-8, 0], [-5]])


if __name__ == "__main__":
    unittest.main()
