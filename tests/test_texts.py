import re
import unittest

from evenrows.errors import NoHands, NoRow, NoText, NoWorths
from evenrows.texts import read_row, read_worths, row_text, worths_text
from tests import oracle
from tests.test_rows import LONGEST, TOO_LONG, no_hands, no_rows_of_two
from tests.test_smooth import no_worths
from tests.test_sums import FOUR
from tests.wrong import Prickly, Refusing

# Signs that are put into texts and exchanged for theirs: those of texts, and
# some that are near to them, such as digits of other scripts and other blanks.
SIGNS = "abcdeABx0129-+ \n\t\r_,.;'\"\\\u00e4\u00b2\u0663\uff11\u00a0\u2003\u2212\u2028\x00\x0b\x0c\x1c\x85"
A_WORTH = "(?:0|-?[1-9][0-9]*)"


def no_strings():
    """New things each time that are no strings."""
    return [
        0, 1, -1, 10 ** 5000, True, False, None, b"", b"ab", b"1 2", (), ("a",), (0, 1), ("1",), [], ["a", "b"],
        {}, {"a": 0}, set(), {"a"}, frozenset("a"), range(2), object(), str, len, 1j, iter("ab"), Prickly(), Prickly,
    ]


def changed(text):
    """The text with a sign put in, left out or exchanged, or with two neighbours exchanged."""
    found = []
    for at in range(len(text) + 1):
        found += [text[:at] + sign + text[at:] for sign in SIGNS]
    for at in range(len(text)):
        found.append(text[:at] + text[at + 1:])
        found += [text[:at] + sign + text[at + 1:] for sign in SIGNS]
        found.append(text[:at] + text[at:at + 2][::-1] + text[at + 2:])
    return found


class RowTextTest(Refusing, unittest.TestCase):

    def test_by_hand(self):
        for hands, row, text in (
                (2, (0,), "a"), (2, (1,), "b"), (3, (2,), "c"), (4, (3,), "d"), (2, FOUR, "abba"),
                (4, (3, 0, 2, 1, 1), "dacbb"), (3, (2, 2, 0), "cca"), (2, LONGEST, "ab" * 32),
                (4, (3,) * 64, "d" * 64)):
            with self.subTest((hands, row)):
                self.assertEqual(row_text(hands, row), text)
                self.assertIs(type(row_text(hands, row)), str)
                self.assertEqual(read_row(hands, text), row)
                self.assertIs(type(read_row(hands, text)), tuple)

    def test_all_short_rows_letter_by_letter(self):
        for hands, row in oracle.some_rows():
            text = row_text(hands, row)
            self.assertEqual(len(text), len(row))
            for turn, letter in zip(row, text):
                self.assertEqual("abcd".index(letter), turn)
            self.assertEqual(read_row(hands, text), row)

    def test_read_rows_have_whole_numbers(self):
        for hands in (2, 3, 4):
            self.assertEqual({type(turn) for turn in read_row(hands, "abba")}, {int})

    def test_refused(self):
        self.refuses(NoHands, lambda hands: row_text(hands, (0, 1)), no_hands())
        self.refuses(NoRow, lambda row: row_text(2, row), no_rows_of_two())

    def test_the_first_refusal_is_told(self):
        self.refuses_first(row_text, [
            (5, (), NoHands), (None, None, NoHands), (True, (0, 1), NoHands), (2, TOO_LONG, NoRow)])


class ReadRowTest(Refusing, unittest.TestCase):

    def test_changed_texts(self):
        read = 0
        for hands, text in ((2, "a"), (2, "abba"), (3, "cab"), (4, "dcabd"), (2, "ab" * 32), (4, "abcd" * 15 + "abc")):
            for other in changed(text):
                if re.fullmatch("[" + "abcd"[:hands] + "]{1,64}", other):
                    row = read_row(hands, other)
                    self.assertEqual("".join("abcd"[turn] for turn in row), other)
                    read += 1
                else:
                    with self.assertRaises(NoText, msg=ascii(other)):
                        read_row(hands, other)
        self.assertGreater(read, 100)

    def test_letters_of_hands_that_are_not_there(self):
        for hands in (2, 3, 4):
            self.assertEqual(read_row(hands, "abcd"[:hands]), tuple(range(hands)))
            for text in ("abcde"[:hands + 1], "abcde"[hands], "a" + "abcde"[hands] + "a", "A", "aB", "0", "01"):
                with self.assertRaises(NoText):
                    read_row(hands, text)

    def test_places_are_1_to_64(self):
        for places in range(1, 65):
            self.assertEqual(read_row(2, "b" * places), (1,) * places)
        for places in (0, 65, 66, 128, 1000):
            with self.assertRaises(NoText):
                read_row(2, "b" * places)

    def test_no_line_feed_nor_blank(self):
        self.refuses(NoText, lambda text: read_row(2, text), [
            "ab\n", "\nab", "a\nb", "ab\n\n", "ab\r\n", "a b", "ab ", " ab", "  ", " ", "\n", "\t", "a\x00b", "ab\x00",
            "a,b", "(0, 1)", "ab.", "a-b", "\u0430b", "\uff41b", "a\u0301b", "\ufeffab"])

    def test_refused(self):
        self.refuses(NoHands, lambda hands: read_row(hands, "ab"), no_hands())
        self.refuses(NoText, lambda text: read_row(2, text), no_strings())

    def test_the_first_refusal_is_told(self):
        self.refuses_first(read_row, [
            (5, "", NoHands), (None, None, NoHands), (True, "ab", NoHands), (1, "x", NoHands), (2, Prickly(), NoText)])

    def test_told_twice_are_two_tuples(self):
        self.assertIsNot(read_row(2, "abba"), read_row(2, "abba"))


class WorthsTextTest(Refusing, unittest.TestCase):

    def test_by_hand(self):
        for worths, text in (
                ((0,), "0"), ((1, 2, 3), "1 2 3"), ((-1,), "-1"), ((10, -10, 0, 0), "10 -10 0 0"),
                ((-0, 7), "0 7"), ((5,) * 64, "5 " * 63 + "5"), ((1000000, -2000000), "1000000 -2000000"),
                ((2 ** 64, -(2 ** 64)), "18446744073709551616 -18446744073709551616")):
            with self.subTest(text):
                self.assertEqual(worths_text(worths), text)
                self.assertIs(type(worths_text(worths)), str)
                self.assertEqual(read_worths(text), worths)
                self.assertIs(type(read_worths(text)), tuple)

    def test_small_worths_as_they_are_written(self):
        for worth in range(-1100, 1101):
            self.assertEqual(worths_text((worth, 3)), str(worth) + " 3")
            self.assertEqual(read_worths(str(worth) + " 3"), (worth, 3))

    def test_great_worths(self):
        # Python itself writes and reads no number of more than 4300 digits.
        for digits in (17, 62, 63, 64, 65, 126, 127, 128, 129, 192, 193, 1000, 4299, 4300, 4301, 5000, 10001):
            for text in ("1" + "0" * digits, "9" * digits, "7" + "0" * (digits - 2) + "3", "12345" * (digits // 5)):
                number = 0
                for digit in text:
                    number = number * 10 + int(digit)
                self.assertEqual(worths_text((number, -number)), text + " -" + text)
                self.assertEqual(read_worths(text + " -" + text), (number, -number))

    def test_more_than_64_worths(self):
        for many in (65, 66, 1000):
            worths = tuple(range(-5, many - 5))
            self.assertEqual(worths_text(worths), " ".join(str(worth) for worth in worths))
            self.assertEqual(read_worths(worths_text(worths)), worths)

    def test_refused(self):
        self.refuses(NoWorths, worths_text, no_worths())


class ReadWorthsTest(Refusing, unittest.TestCase):

    def test_changed_texts(self):
        read = 0
        for text in ("0", "7", "-7", "10", "-10 0 205", "0 0", "1 -1", "3 0 -99 20", "1" + "0" * 66):
            for other in changed(text):
                if re.fullmatch(A_WORTH + "(?: " + A_WORTH + ")*", other):
                    worths = read_worths(other)
                    self.assertEqual(worths, tuple(int(word) for word in other.split(" ")))
                    self.assertEqual(worths_text(worths), other)
                    read += 1
                else:
                    with self.assertRaises(NoText, msg=ascii(other)):
                        read_worths(other)
        self.assertGreater(read, 100)

    def test_noughts_and_signs(self):
        self.refuses(NoText, read_worths, [
            "-0", "00", "01", "-01", "001", "-00", "0 -0", "1 01", "1 00", "+1", "+0", "--1", "-", "1 -", "- 1", "-+1",
            "1-", "1-1", "- ", "0x1", "1e3", "1_000", "1,2", "1.0", "1j", "\u0661", "1\u0661", "\u00b2", "\uff11",
            "0" * 65, "0" + "1" * 64, "-0" + "1" * 64, "\u22121", "one", "a"])

    def test_blanks_and_line_feeds(self):
        self.refuses(NoText, read_worths, [
            "", " ", "  ", "1 ", " 1", "1  2", "1   2", " 1 2 ", "1\n", "\n1", "1\n2", "1 \n2", "1 2\n", "1\t2", "1\r",
            "1\x0b2", "1\u00a02", "1\u20032", "1\x1c2", "1\x852", "\n", "1 2\r\n", "\ufeff1", "1\x00"])

    def test_refused(self):
        self.refuses(NoText, read_worths, no_strings())

    def test_told_twice_are_two_tuples(self):
        self.assertIsNot(read_worths("1 2"), read_worths("1 2"))


if __name__ == "__main__":
    unittest.main()
