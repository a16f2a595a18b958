"""Texts and tokens: blanks, words, numbers, quoted texts, signs, and fault 2."""

import unittest

from tests.helper import answer, ask, codes, hire, shown

STOPPED = b"part P of A start S S = stop"
FORM = "part P of A\nstart S\nS = stop\n"


def with_range(text):
    """The answer for a branch with such a range, and the place at which the range begins."""
    head = "part P of A start S S = send A -> B { a("
    return answer(head + text + ") S }"), len(head)


class Length(unittest.TestCase):
    def test_a_text_of_4096_bytes_is_taken(self):
        self.assertEqual(answer(STOPPED.ljust(4096)), [1, 0])
        self.assertEqual(answer(STOPPED + b" #".ljust(4096 - len(STOPPED), b"x")), [1, 0])

    def test_a_text_of_more_bytes_has_fault_1_at_4096(self):
        for length in (4097, 4098, 8191, 8192):
            self.assertEqual(answer(STOPPED.ljust(length)), [0, 1, 4096])
            self.assertEqual(answer(b"\r".ljust(length)), [0, 1, 4096])

    def test_what_is_wrong_in_a_text_of_4096_bytes_is_told(self):
        self.assertEqual(answer(STOPPED.ljust(4095) + b"\r"), [0, 2, 4095])
        self.assertEqual(answer(STOPPED.ljust(4095) + b"S"), [0, 3, 4096])

    def test_a_text_without_tokens_has_fault_3_at_its_end(self):
        self.assertEqual(answer(""), [0, 3, 0])
        self.assertEqual(answer("\t \n#part"), [0, 3, 8])


class Blanks(unittest.TestCase):
    def test_blanks_and_remarks_mean_nothing(self):
        text = "#first\n\tpart#\nP\tof\n\nA start # start \"\\ \r\n S S=stop#the end"
        self.assertEqual(ask(hire(text), shown(0)), [[1, 0], [len(FORM)] + codes(FORM)])

    def test_a_remark_ends_at_the_byte_10_alone(self):
        self.assertEqual(answer("part P of A start S S = stop # \r \t stop"), [1, 0])
        self.assertEqual(answer("part P of A start S S = stop #\nstop"), [0, 3, 31])

    def test_the_end_stands_behind_the_last_blank(self):
        self.assertEqual(answer("part P of A start S  # more"), [0, 3, 27])

    def test_other_bytes_are_no_blanks(self):
        for byte in (0, 1, 8, 11, 12, 13, 27, 31, 127, 128, 133, 160, 255):
            self.assertEqual(answer(b"part P" + bytes([byte]) + b"of A start S S = stop"), [0, 2, 6])

    def test_bytes_of_no_token(self):
        allowed = b"\t\n \"#-<!(),:;=?[]{|}0123456789"
        letters = b"ABCDEFGHIJKLMNOPQRSTUVWXYZabcdefghijklmnopqrstuvwxyz"
        for byte in range(256):
            if byte not in allowed + letters:
                self.assertEqual(answer(b"part " + bytes([byte])), [0, 2, 5], byte)


class Words(unittest.TestCase):
    def test_a_word_has_at_most_16_bytes(self):
        longest = "Az09bcdefghijkYZ"
        self.assertEqual(answer(f"part {longest} of {longest} start S S = stop"), [1, 0])
        self.assertEqual(answer(f"part {longest}x of A start S S = stop"), [0, 2, 5])
        self.assertEqual(answer(f"part P of {longest}0 start S S = stop"), [0, 2, 10])

    def test_a_word_of_4096_bytes(self):
        self.assertEqual(answer("a" * 4096), [0, 2, 0])

    def test_great_and_small_letters_are_unlike(self):
        self.assertEqual(answer("part P of A start s S = stop"), [0, 6, 18])
        self.assertEqual(answer("part P of A start S S = stop s = stop"), [1, 0])
        self.assertEqual(answer("part Part of Of start Stop Stop = stop STOP = stop"), [1, 0])
        self.assertEqual(answer("Part P of A start S S = stop"), [0, 3, 0])

    def test_no_word_begins_with_a_digit(self):
        self.assertEqual(answer("part 12ab of A start S S = stop"), [0, 3, 5])
        self.assertEqual(answer("part P 1 \r"), [0, 2, 9])

    def test_an_underscore_is_no_letter(self):
        self.assertEqual(answer("part P_ of A start S S = stop"), [0, 2, 6])

    def test_every_letter_and_digit_comes_back(self):
        words = ["ABCDEFGHIJKLM", "NOPQRSTUVWXYZ", "abcdefghijklm", "nopqrstuvwxyz", "x0123456789"]
        form = f"part {words[0]} of {words[1]}\nstart {words[2]}\n"
        form += "".join(f"{word} = stop\n" for word in words[2:])
        self.assertEqual(ask(hire(form), shown(0)), [[1, 0], [len(form)] + codes(form)])


class NumberTokens(unittest.TestCase):
    def assert_taken(self, text):
        self.assertEqual(with_range(text)[0], [1, 0], text)

    def assert_fault(self, text, code, offset):
        given, begin = with_range(text)
        self.assertEqual(given, [0, code, begin + offset], text)

    def test_numbers(self):
        for text in ("num 0 0", "num -1 0", "num 1 1", "num 10 100", "num -10 -9", "text 0",
                     "num -1000000000 1000000000", "num -1000000000 -1000000000",
                     "num 1000000000 1000000000", "num 999999999 1000000000"):
            self.assert_taken(text)

    def test_no_numbers(self):
        for text in ("00", "007", "01", "-0", "-00", "-01", "-007", "1000000001", "-1000000001", "9999999999",
                     "10000000000", "-10000000000", "1" * 1000, "-" + "1" * 1000, "0" * 1000):
            self.assert_fault(f"num {text} 0", 2, 4)

    def test_a_number_ends_where_digits_end(self):
        self.assert_fault("num 12ab", 3, 6)
        self.assert_fault("num 12 ab\r", 2, 9)
        self.assert_taken("num 1#\n2")
        self.assert_taken("num -1-1")
        self.assert_fault("num 1-1", 7, 5)
        self.assert_taken("num-1 1")

    def test_minus_and_less_by_themselves(self):
        for text in ("-", "- 1", "-a", "--1", "-=", "-<", "-#", "<", "< -", "<1", "<=", "<>", "<<-"):
            self.assert_fault(text, 2, 0)
        self.assertEqual(answer("part -"), [0, 2, 5])
        self.assertEqual(answer("part <"), [0, 2, 5])

    def test_the_arrows_are_one_sign_each(self):
        self.assertEqual(answer("part P of A start S S=send A->B{a()S}"), [1, 0])
        self.assertEqual(answer("part P of A start S S=recv A<-B{a()S}"), [1, 0])
        self.assertEqual(answer("part P of A start S S = send A - > B { a() S }"), [0, 2, 31])
        self.assertEqual(answer("part P of A start S S = recv A < - B { a() S }"), [0, 2, 31])
        self.assertEqual(answer("part <-1 \r"), [0, 2, 9])
        self.assertEqual(answer("part ->1 \r"), [0, 2, 9])
        self.assertEqual(answer("part >"), [0, 2, 5])


class QuotedTexts(unittest.TestCase):
    """No part has a place for a quoted text: a right one has fault 3, one that isn't right fault 2."""

    def assert_right(self, quoted):
        self.assertEqual(answer(b"part " + quoted), [0, 3, 5], quoted)
        # The byte 13 is no token: fault 2 at it tells where the quoted text has ended.
        self.assertEqual(answer(b"part " + quoted + b"\r"), [0, 2, 5 + len(quoted)], quoted)

    def assert_wrong(self, quoted):
        self.assertEqual(answer(b"part " + quoted), [0, 2, 5], quoted)
        self.assertEqual(answer(b"part " + quoted + b" P"), [0, 2, 5], quoted)

    def test_bytes_stand_for_themselves(self):
        self.assert_right(b'""')
        self.assert_right(b'"part # <- \r\t \x00\xff\x80"')
        for byte in range(256):
            if byte not in (10, 34, 92):
                self.assert_right(b'"' + bytes([byte]) + b'"')

    def test_escapes(self):
        for escape in (b'\\"', b"\\\\", b"\\n", b"\\x00", b"\\xff", b"\\x0a", b"\\x9f", b"\\xa0"):
            self.assert_right(b'"' + escape + b'"')
            self.assert_right(b'"a' + escape + escape + b'b"')

    def test_escapes_that_are_not_right(self):
        for escape in (b"\\", b"\\a", b"\\t", b"\\r", b"\\N", b"\\X00", b"\\x", b"\\x0", b"\\xA0", b"\\x0A",
                       b"\\xg0", b"\\x0g", b"\\x 0", b"\\0", b"\\'", b"\\\n", b"\\x/0", b"\\x:0", b"\\x`0"):
            self.assert_wrong(b'"' + escape + b'"')

    def test_without_its_end(self):
        for quoted in (b'"', b'"a', b'"\\', b'"\\x', b'"\\x0', b'"\\x00', b'"\\"', b'"a\n"', b'"\n'):
            self.assertEqual(answer(b"part " + quoted), [0, 2, 5], quoted)

    def test_at_most_255_bytes_are_told(self):
        self.assert_right(b'"' + b"a" * 255 + b'"')
        self.assert_wrong(b'"' + b"a" * 256 + b'"')
        for escape in (b"\\n", b"\\xff", b'\\"'):
            self.assert_right(b'"' + escape * 255 + b'"')
            self.assert_wrong(b'"' + escape * 256 + b'"')
            self.assert_right(b'"' + b"a" * 254 + escape + b'"')
            self.assert_wrong(b'"' + b"a" * 255 + escape + b'"')

    def test_a_quoted_word_is_no_word(self):
        self.assertEqual(answer('"part" P of A start S S = stop'), [0, 3, 0])
        self.assertEqual(answer('part P of A start S S "=" stop'), [0, 3, 22])


class OtherSigns(unittest.TestCase):
    def test_signs_that_no_part_uses_are_tokens(self):
        for sign in "={}()[],;:!?|":
            self.assertEqual(answer(f"part {sign}"), [0, 3, 5])
            self.assertEqual(answer(f"part {sign}{sign}P\r"), [0, 2, 8])


class Reserved(unittest.TestCase):
    WORDS = ("script parties seat of start end both flag num text part stop send recv program for def if "
             "pick any set go true false").split()

    def test_no_reserved_word_is_a_name(self):
        self.assertEqual(len(self.WORDS), 24)
        for word in self.WORDS:
            self.assertEqual(answer(f"part {word} of A start S S = stop"), [0, 3, 5])
            self.assertEqual(answer(f"part P of A start S S = send {word} -> B {{ a() S }}"), [0, 3, 29])

    def test_other_words_are_names(self):
        for word in ("Script", "flags", "number", "worker", "stop1", "hire", "title", "E", "e0"):
            self.assertEqual(answer(f"part {word} of {word} start {word} {word} = stop"), [1, 0])


if __name__ == "__main__":
    unittest.main()
