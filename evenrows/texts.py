"""Rows and worths as texts, written and read back."""

from evenrows.checks import MOST_PLACES, check_hands, check_row, check_worths
from evenrows.errors import NoText

LETTERS = "abcd"
DIGITS = "0123456789"
# A whole number is written and read by pieces: Python itself refuses to do so
# with one of some thousand digits.
PIECE = 64
PIECE_END = 10 ** 64


def row_text(hands, row):
    """The row's text: for each turn the letter of its hand."""
    check_row(hands, row)
    return letters_of(row)


def read_row(hands, text):
    """The row that has this text."""
    check_hands(hands)
    if not isinstance(text, str) or not 1 <= len(text) <= MOST_PLACES:
        raise NoText("a row's text has 1 to 64 letters")
    letters = LETTERS[:hands]
    if not all([letter in letters for letter in text]):
        raise NoText("each letter of a row's text is that of a hand")
    return tuple([letters.index(letter) for letter in text])


def worths_text(worths):
    """The worths' text: with a blank between each two."""
    check_worths(worths)
    return " ".join([word_of(worth) for worth in worths])


def read_worths(text):
    """The worths that have this text."""
    if not isinstance(text, str):
        raise NoText("a text is a string")
    words = text.split(" ")
    if not all([is_word(word) for word in words]):
        raise NoText("worths' text has whole numbers, with one blank between each two")
    return tuple([worth_of(word) for word in words])


def letters_of(row):
    """The text, of a row that is checked already."""
    return "".join([LETTERS[turn] for turn in row])


def word_of(worth):
    """The word of a single worth."""
    if worth < 0:
        return "-" + digits_of(-worth)
    return digits_of(worth)


def digits_of(number):
    """The digits of a whole number that is not below 0."""
    pieces = []
    left = number
    while left >= PIECE_END:
        left, piece = divmod(left, PIECE_END)
        pieces.append(str(piece).zfill(PIECE))
    pieces.append(str(left))
    return "".join(pieces[::-1])


def is_word(word):
    """Whether the word is that of a worth, just as it is written."""
    digits = word.removeprefix("-")
    if digits == "" or not all([digit in DIGITS for digit in digits]):
        return False
    return word == "0" or digits[0] != "0"


def worth_of(word):
    """The worth that has this word."""
    digits = word.removeprefix("-")
    padded = "0" * (-len(digits) % PIECE) + digits
    number = 0
    for start in range(0, len(padded), PIECE):
        number = number * PIECE_END + int(padded[start:start + PIECE])
    if word.startswith("-"):
        return -number
    return number
