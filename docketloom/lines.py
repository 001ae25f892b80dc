"""Words, lines and sheets."""

from docketloom.errors import Malformed, OutOfRange, Refused, TooMuch
from docketloom.names import is_figures

WORD_SIGNS = "abcdefghijklmnopqrstuvwxyz0123456789-/.,:+=#_"
ROW_SIGNS = "abcdefghijklmnopqrstuvwxyz0123456789-/.,:+=#_ "
LONGEST_WORD = 40
MOST_WORDS = 20
MOST_FIGURES = 20
FIRST_TOO_LONG = 10 ** 20
LONGEST_SHEET = 100000
REMARK = "#"
BLANK = "blank"
# So many line feeds together are told at once.
LONG_GAP = 500


def has_signs(text, signs):
    """True if the text has no other signs than these."""
    # Taking signs off its ends looks at each sign of a long text faster than going through it here.
    return text.strip(signs) == ""


def are_sized(values):
    """True if the values, of any kind, are as many texts as a line may have words, each as long as a word may be."""
    if not 1 <= len(values) <= MOST_WORDS:
        return False
    for value in values:
        if type(value) is not str or not 1 <= len(value) <= LONGEST_WORD:
            return False
    return True


def are_words(values):
    """True if the list of values, of any kind, makes a line."""
    return are_sized(values) and has_signs("".join(values), WORD_SIGNS)


def is_word(value):
    """True if the value, of any kind, is a word."""
    return are_words([value])


def line_of(words):
    """The line of a list of words."""
    if not are_words(words):
        raise Malformed("these words make no line")
    return " ".join(words)


def words_of(line):
    """The list of the words of a line."""
    words = line.split(" ")
    if not are_words(words):
        raise Malformed("the text is no line")
    return words


def number_word(number):
    """The number word of an integer."""
    if abs(number) >= FIRST_TOO_LONG:
        raise OutOfRange("the number has too many figures")
    return str(number)


def number_of(word):
    """The integer whose number word the text is."""
    figures = word.removeprefix("-")
    if len(figures) > MOST_FIGURES or not is_figures(figures):
        raise Malformed("no number word")
    number = int(word)
    if str(number) != word:
        raise Malformed("no number word")
    return number


def has_sheet_signs(text):
    """True if the text has no other signs than those of rows and line feeds."""
    if not text.isascii():
        return False
    # Figures stay as they are, and all other good signs become one; this is the fastest way to look at a whole sheet.
    told = text.translate(str.maketrans("123456789abcdefghijklmnopqrstuvwxyz-/.,:+=#_ \n",
                                        "0000000000000000000000000000000000000000000000"))
    return told.count("0") == len(text)


def fault_of(row, words, is_clean):
    """The reason for which a row that is not empty is bad, or None; if the sheet is clean, all signs are good ones."""
    if not is_clean and not has_signs(row, ROW_SIGNS):
        return "sign"
    # A space at an end, or two together, leave an empty text between them.
    if "" in words:
        return "space"
    if len(words) > MOST_WORDS or (len(row) > LONGEST_WORD and any([len(word) > LONGEST_WORD for word in words])):
        return "long"
    return None


def add_rows(rows, first, is_clean, good, bad):
    """Adds rows, of which the first one has this number, to the good and to the bad ones."""
    for number, row in enumerate(rows, first):
        if row == "":
            bad.append((number, BLANK))
        elif not row.startswith(REMARK):
            words = row.split(" ")
            fault = fault_of(row, words, is_clean)
            if fault is None:
                good.append((number, words))
            else:
                bad.append((number, fault))


def read_sheet(text):
    """The good rows, with their words, and the bad rows, with their reasons."""
    if len(text) > LONGEST_SHEET:
        raise TooMuch("the sheet is too long")
    is_clean = has_sheet_signs(text)
    good = []
    bad = []
    number = 1
    parts = text.split("\n" * LONG_GAP)
    for part in parts[:-1]:
        rows = part.split("\n")
        add_rows(rows, number, is_clean, good, bad)
        number += len(rows)
        # The first line feed of a gap ends the row ahead of it, and each other one an empty row.
        behind = number + LONG_GAP - 1
        bad.extend(list(zip(range(number, behind), [BLANK] * LONG_GAP)))
        number = behind
    rows = parts[-1].split("\n")
    # Behind a last line feed no further row begins, and the empty text has none.
    if rows[-1] == "":
        rows.pop()
    add_rows(rows, number, is_clean, good, bad)
    return good, bad


def write_sheet(rows):
    """The text in which each list of words is a row."""
    if not all([are_sized(words) for words in rows]):
        raise Malformed("a row makes no line")
    text = "".join([" ".join(words) + "\n" for words in rows])
    # More spaces or line feeds than there are between the words stand inside of them.
    spaces = sum([len(words) - 1 for words in rows])
    if not has_sheet_signs(text) or text.count(" ") != spaces or text.count("\n") != len(rows):
        raise Malformed("a row makes no line")
    if text.startswith(REMARK) or "\n" + REMARK in text:
        raise Refused("a row would be a remark")
    if len(text) > LONGEST_SHEET:
        raise TooMuch("the sheet is too long")
    return text
