"""Deeds as lines, logs as texts, and scripts."""

from docketloom.charter import is_office_deed
from docketloom.days import is_day
from docketloom.errors import Malformed, NotThere, OutOfRange, Refused, TooMuch
from docketloom.lines import line_of, number_of, number_word, read_sheet, words_of
from docketloom.names import is_figures

NO_NAME = "-"
LINE_FEED = "\n"


def word_for(part):
    """The word for a number or a text."""
    if type(part) is int:
        return number_word(part)
    return NO_NAME if part == "" else part


def words_for(parts):
    """The list of the words for numbers and texts."""
    return [word_for(part) for part in parts]


def line_of_deed(deed):
    """The line of the deed."""
    if deed[0] == "begin":
        _, held, cause, parties, worth, barred, draw = deed
        words = words_for(["begin", held, cause, worth, draw]) + [f"{party}:{role}" for party, role in parties]
        return line_of(words + [f"+{judge}" for judge in barred])
    if deed[0] == "heads":
        _, cause, heads, sides, allowances = deed
        words = words_for(("heads", cause) + sides + allowances)
        return line_of(words + [f"{head}:{parent}:{number_word(value)}" for head, parent, value in heads])
    if deed[0] == "expense":
        return line_of(words_for(deed[:4]) + list(deed[4]))
    return line_of(words_for(deed))


def part_of(word):
    """The number or the text for which the word stands."""
    if is_figures(word):
        return number_of(word)
    return "" if word == NO_NAME else word


def parts_of(words):
    """The tuple of the numbers and texts for which the words stand."""
    return tuple([part_of(word) for word in words])


def deed_of_words(words):
    """The only deed that the words of a line can tell, if they tell one."""
    parts = parts_of(words)
    if words[0] == "begin" and len(words) >= 5:
        _, held, cause, worth, draw = parts[:5]
        pairs = [word.partition(":") for word in words[5:]]
        parties = tuple([(party, role) for party, colon, role in pairs if colon != ""])
        barred = tuple([word.removeprefix("+") for word in words[5:] if word.startswith("+")])
        return ("begin", held, cause, parties, worth, barred, draw)
    if words[0] == "heads" and len(words) >= 6:
        heads = tuple([parts_of(word.split(":")) for word in words[6:]])
        return ("heads", parts[1], heads, parts[2:4], parts[4:6])
    if words[0] == "expense" and len(words) >= 4:
        return parts[:4] + (parts[4:],)
    return parts


def deed_of_line(line):
    """The deed whose line the text is."""
    deed = deed_of_words(words_of(line))
    if not is_office_deed(deed) or line_of_deed(deed) != line:
        raise Malformed("the line of no deed")
    return deed


def log_text(log):
    """The text of the pairs of a day and a deed."""
    return "".join([number_word(day) + " " + line_of_deed(deed) + LINE_FEED for day, deed in log])


def log_of(text):
    """The list of the pairs of a day and a deed whose text this is."""
    rows = text.split(LINE_FEED)
    if rows.pop() != "":
        raise Malformed("a row without a line feed")
    found = []
    for row in rows:
        word, _, line = row.partition(" ")
        day = number_of(word)
        if not is_day(day):
            raise Malformed("no day")
        found.append((day, deed_of_line(line)))
    return found


def answer_to(office, line):
    """The answer to a row that is a line."""
    try:
        office.do(deed_of_line(line))
    except OutOfRange:
        return "range"
    except Malformed:
        return "form"
    except NotThere:
        return "none"
    except Refused:
        return "refused"
    except TooMuch:
        return "much"
    return "done"


def run_script(office, text):
    """Runs a script in the office, and returns the list of the pairs of the number of a row and its answer."""
    good, bad = read_sheet(text)
    answers = [(number, answer_to(office, line_of(words))) for number, words in good]
    return sorted(answers + [(number, "bad") for number, _ in bad])
