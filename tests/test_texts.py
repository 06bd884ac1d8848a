"""Characters, pieces, texts and their faults; how long rows may be."""

import functools
import itertools
import random
import re
import unittest

from helper import last, remark, said, stands, told, with_length, write

CRITICAL = [
    0x00, 0x0A, 0x1F, 0x20, 0x2B, 0x2C, 0x2D, 0x2E, 0x2F, 0x30, 0x31, 0x39, 0x3A, 0x7A, 0x7B, 0x7C, 0x7D, 0x7E, 0x7F,
    0x80, 0x8F, 0x90, 0x9F, 0xA0, 0xB7, 0xBD, 0xBE, 0xBF, 0xC0, 0xC1, 0xC2, 0xC3, 0xDF, 0xE0, 0xE1, 0xEC, 0xED, 0xEE,
    0xEF, 0xF0, 0xF1, 0xF3, 0xF4, 0xF5, 0xF7, 0xF8, 0xFC, 0xFE, 0xFF,
]
TAILS = [b"", b"{", b"+1}", b"1}", b"}"] + [
    bytes(tail)
    for length in (1, 2, 3)
    for tail in itertools.product((0x80, 0x8F, 0x90, 0x9F, 0xA0, 0xBD), repeat=length)
]
ROW = re.compile(r"(?:[^{]|\{\{|\{[+\-.][1-9][0-9]{0,2}\})*", re.DOTALL)


def is_character(number):
    return number >= 0x20 and not 0x7F <= number <= 0x9F and number & 0xFFFF not in (0xFFFE, 0xFFFF)


def is_row_text(text):
    try:
        signs = text.decode("utf-8")
    except UnicodeDecodeError:
        return False
    return all(is_character(ord(sign)) for sign in signs) and ROW.fullmatch(signs) is not None


@functools.lru_cache(maxsize=None)
def begins_row_text(text):
    return any(is_row_text(text + tail) for tail in TAILS)


def fault_by_the_words(text):
    """None, or the place of the first byte with which no row's text goes on."""
    if is_row_text(text):
        return None
    for place in range(len(text)):
        if not begins_row_text(text[:place + 1]):
            return place
    return len(text)


def remark_answer(text):
    return last(remark(0, 1, 1, 0, 0, text))


class FaultTest(unittest.TestCase):
    def faulty(self, text, place):
        """The same fault in each of the three places that a text has."""
        self.assertEqual(fault_by_the_words(text), place, text)
        self.assertEqual(remark_answer(text), [-5, 2, place], text)
        self.assertEqual(last(write(0, 1, 1, 0, 0, 1, text, b"")), [-5, 1, place], text)
        self.assertEqual(last(write(0, 1, 1, 0, 0, 1, b"", text)), [-5, 2, place], text)

    def test_bytes_that_end_too_early(self):
        for text in (b"\xc3", b"\xe2", b"\xe2\x82", b"\xf0", b"\xf0\x9f", b"\xf0\x9f\x98", b"{", b"{+", b"{-", b"{.",
                     b"{+1", b"{-12", b"{.999", b"ab{{{"):
            self.faulty(text, len(text))
            self.faulty(b"xyz" + text, len(text) + 3)

    def test_bytes_that_cannot_go_on(self):
        self.faulty(b"a\xc3a", 2)
        self.faulty(b"\xe2a\x82", 1)
        self.faulty(b"\xe2\x82a", 2)
        self.faulty(b"\xf0\x9fa\x80", 2)
        self.faulty(b"\xf0\x9f\x98\xc3", 3)
        self.faulty(b"ab\x80", 2)
        self.faulty(b"\xbf", 0)
        self.faulty(b"{a", 1)
        self.faulty(b"{}", 1)
        self.faulty(b"{ 1}", 1)
        self.faulty(b"a{+a}", 3)
        self.faulty(b"a{+}", 3)
        self.faulty(b"{-1 }", 3)
        self.faulty(b"{.1{", 3)
        self.faulty(b"{+-1}", 2)
        self.faulty(b"{+/}", 2)
        self.faulty(b"{+:}", 2)
        self.faulty(b"{-1/}", 3)
        self.faulty(b"{-1:}", 3)

    def test_controls(self):
        for byte in list(range(0x20)) + [0x7F]:
            self.faulty(bytes([byte]), 0)
        for byte in range(0x80, 0xA0):
            self.faulty(bytes([0x61, 0xC2, byte]), 2)

    def test_overlong(self):
        self.faulty(b"\xc0\x80", 0)
        self.faulty(b"\xc1\xbf", 0)
        self.faulty(b"\xe0\x80\x80", 1)
        self.faulty(b"\xe0\x9f\xbf", 1)
        self.faulty(b"\xf0\x80\x80\x80", 1)
        self.faulty(b"\xf0\x8f\xbf\xbf", 1)

    def test_surrogates(self):
        self.faulty(b"\xed\xa0\x80", 1)
        self.faulty(b"\xed\xbf\xbf", 1)
        self.faulty(b"ab\xed\xaf\x80", 3)

    def test_numbers_that_are_no_characters(self):
        self.faulty(b"\xef\xbf\xbe", 2)
        self.faulty(b"\xef\xbf\xbf", 2)
        for plane in range(1, 17):
            text = chr(plane * 0x10000 + 0xFFFE).encode("utf-8")
            self.faulty(text, 3)
            self.faulty(text[:3] + b"\xbf", 3)
        self.faulty(b"\xf4\x90\x80\x80", 1)
        self.faulty(b"\xf5\x80\x80\x80", 0)
        self.faulty(b"\xf8\x88\x80\x80\x80", 0)
        self.faulty(b"\xfe", 0)
        self.faulty(b"\xff", 0)

    def test_numbers_of_tags(self):
        self.faulty(b"{+0}", 2)
        self.faulty(b"{-01}", 2)
        self.faulty(b"{.00}", 2)
        self.faulty(b"{+1000}", 5)
        self.faulty(b"{.9999}", 5)
        self.faulty(b"ab{-10000}", 7)

    def test_first_fault_counts(self):
        self.faulty(b"a\x01{+0}\xff", 1)
        self.faulty(b"a{+0}\x01", 3)

    def test_every_byte_and_critical_pair(self):
        for byte in range(256):
            self.like_the_words(bytes([byte]))
        for pair in itertools.product(CRITICAL, repeat=2):
            self.like_the_words(bytes(pair))

    def test_mixed_bytes(self):
        chance = random.Random(7)
        parts = [b"{", b"{{", b"{+", b"{-12", b"{.9", b"0", b"1", b"}", b"a", b"\xc3\xa9", b"\xef\xbf", b"\xf0\x9f"]
        parts = parts + [bytes([byte]) for byte in CRITICAL]
        for turn in range(3000):
            self.like_the_words(b"".join(chance.choice(parts) for count in range(chance.randint(1, 6))))

    def like_the_words(self, text):
        fault = fault_by_the_words(text)
        answer = remark_answer(text)
        if fault is not None:
            self.assertEqual(answer, [-5, 2, fault], text)
        else:
            self.assertNotEqual(answer[:2], [-5, 2], text)


class CharacterTest(unittest.TestCase):
    def test_characters_at_the_bounds(self):
        for number in (0x20, 0x7A, 0x7C, 0x7D, 0x7E, 0xA0, 0x7FF, 0x800, 0xFFF, 0x1000, 0xD7FF, 0xE000, 0xFFFD, 0x10000,
                       0x1FFFD, 0x20000, 0x3FFFF - 2, 0x40000, 0xFFFFD, 0x100000, 0x10FFFD):
            text = chr(number).encode("utf-8")
            self.assertEqual(remark_answer(text), [0], hex(number))
            self.assertEqual(last(remark(0, 1, 1, 0, 0, text), said(0, 0, 0, 0)), [0, 257] + with_length(text))

    def test_characters_by_blocks(self):
        """A character of each block of 61 numbers, looked at as the words tell characters."""
        for first in range(0, 0x110000, 61 * 16):
            text = chr(first).encode("utf-8", "surrogatepass")
            fine = is_row_text(text)
            self.assertEqual(remark_answer(text) == [0], fine, hex(first))

    def test_braces(self):
        self.assertEqual(last(remark(0, 1, 1, 0, 0, "{{"), said(0, 0, 0, 0)), [0, 257, 2, 0x7B, 0x7B])
        self.assertEqual(remark_answer("}"), [0])
        self.assertEqual(remark_answer("{{}"), [0])
        self.assertEqual(remark_answer("{{{{"), [0])
        self.assertEqual(remark_answer("{{+1}"), [0])
        self.assertEqual(remark_answer("{{{+1}"), [-5, 4, 2])

    def test_tags_at_the_bounds(self):
        text = "{+1}a{.9}{-1}{+10}{.99}{-10}{+100}{.999}{-100}"
        self.assertEqual(
            last(write(0, 1, 1, 0, 0, 1, text, text), stands(0, 0, 0, 0)), told(1, 1, 1, 1, 1, 1, text)
        )


class LengthTest(unittest.TestCase):
    def test_rows_of_4096_and_4097_pieces(self):
        for piece in ("a", "\u20ac", "{{"):
            most = piece * 4096
            above = piece * 4097
            self.assertEqual(last(write(0, 1, 1, 0, 0, 1, most, most)), [0])
            self.assertEqual(last(write(0, 1, 1, 0, 0, 1, above, "")), [-6])
            self.assertEqual(last(write(0, 1, 1, 0, 0, 1, "", above)), [-6])
            self.assertEqual(remark_answer(most), [0])
            self.assertEqual(remark_answer(above), [-6])

    def test_tags_count_as_one_piece(self):
        tags = "{.999}{+1}{-1}"
        most = tags + "a" * 4093
        self.assertEqual(last(write(0, 1, 1, 0, 0, 1, most, tags)), [0])
        self.assertEqual(last(write(0, 1, 1, 0, 0, 1, most + "a", tags)), [-6])

    def test_a_fault_comes_before_the_length(self):
        self.assertEqual(remark_answer(b"a" * 5000 + b"\x00"), [-5, 2, 5000])
        self.assertEqual(last(write(0, 1, 1, 0, 0, 1, b"a" * 5000 + b"{", "")), [-5, 1, 5001])

    def test_the_length_comes_before_what_the_row_says(self):
        self.assertEqual(last(write(0, 1, 1, 0, 0, 1, "{.1}{.1}" + "a" * 4095, "")), [-6])
        self.assertEqual(last(write(0, 1, 1, 0, 0, 1, "", "{.1}" + "a" * 4096)), [-6])
        self.assertEqual(remark_answer("{.1}" + "a" * 4096), [-6])

    def test_texts_of_more_than_65536_bytes(self):
        """No list of the interface is so long; the words tell it all the same."""
        long = "\u20ac" * 21846
        self.assertEqual(last(remark(9, 1, 1, 0, 0, long)), [-6])
        self.assertEqual(last(write(9, 1, 1, 0, 0, 1, long, "")), [-6])
        self.assertEqual(last(write(9, 1, 1, 0, 0, 1, "", long)), [-6])
        self.assertEqual(last(remark(9, 1, 1, 0, 0, "a" * 65536)), [-1])
        self.assertEqual(last(remark(9, 1, 1, 0, 0, "a" * 65537)), [-6])


if __name__ == "__main__":
    unittest.main()
