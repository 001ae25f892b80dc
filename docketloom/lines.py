"""Words, lines and sheets."""

from docketloom.errors import Malformed, OutOfRange, Refused, TooMuch
from docketloom.names import is_figures

WORD_SIGNS = "abcdefghijklmnopqrstuvwxyz0123456789-/.,:+=#_"
LONGEST_WORD = 40
MOST_WORDS = 20
MOST_FIGURES = 20
FIRST_TOO_LONG = 10 ** 20
LONGEST_SHEET = 100000
REMARK = "#"


def is_word(value):
    """True if the value, of any kind, is a word."""
    if type(value) is not str or not 1 <= len(value) <= LONGEST_WORD:
        return False
    return all(sign in WORD_SIGNS for sign in value)


def are_words(values):
    """True if the list of values, of any kind, makes a line."""
    return 1 <= len(values) <= MOST_WORDS and all(is_word(value) for value in values)


def line_of(words):
    """The line of a list of words."""
    if not are_words(words):
        raise Malformed("these words make no line")
    return " ".join(words)


def words_of(line):
    """The list of the words of a line."""
    words = line.split(" ")
    if not are_words(words):
        raise Malformed("the text is no line")
    return words


def number_word(number):
    """The number word of an integer."""
    if abs(number) >= FIRST_TOO_LONG:
        raise OutOfRange("the number has too many figures")
    return str(number)


def number_of(word):
    """The integer whose number word the text is."""
    figures = word.removeprefix("-")
    if len(figures) > MOST_FIGURES or not is_figures(figures):
        raise Malformed("no number word")
    number = int(word)
    if str(number) != word:
        raise Malformed("no number word")
    return number


def fault_of(row):
    """The reason for which a row is bad, or None."""
    if row == "":
        return "blank"
    if not all(sign == " " or sign in WORD_SIGNS for sign in row):
        return "sign"
    words = row.split(" ")
    # A space at an end, or two together, leave an empty text between them.
    if "" in words:
        return "space"
    if len(words) > MOST_WORDS or any(len(word) > LONGEST_WORD for word in words):
        return "long"
    return None


def rows_of(text):
    """The list of the rows of a sheet."""
    rows = text.split("\n")
    # Behind a last line feed no further row begins, and the empty text has none.
    if rows[-1] == "":
        rows.pop()
    return rows


def read_sheet(text):
    """The good rows, with their words, and the bad rows, with their reasons."""
    if len(text) > LONGEST_SHEET:
        raise TooMuch("the sheet is too long")
    good = []
    bad = []
    for number, row in enumerate(rows_of(text), 1):
        if row.startswith(REMARK):
            continue
        fault = fault_of(row)
        if fault is None:
            good.append((number, row.split(" ")))
        else:
            bad.append((number, fault))
    return good, bad


def write_sheet(rows):
    """The text in which each list of words is a row."""
    lines = [line_of(words) for words in rows]
    if any(line.startswith(REMARK) for line in lines):
        raise Refused("a row would be a remark")
    text = "".join([line + "\n" for line in lines])
    if len(text) > LONGEST_SHEET:
        raise TooMuch("the sheet is too long")
    return text
