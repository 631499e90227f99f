"""Tables written as texts, and read again."""

from beatswitch.errors import NoText
from beatswitch.tables import GREATEST_COUNT, is_table


def shown(table):
    """Write a table as a text."""
    return " / ".join([_shown_row(row) for row in table])


def _shown_row(row):
    return " ".join([str(count) for count in row])


def read(text):
    """Read the table that a text writes; NoText where it writes none."""
    table = tuple([_read_row(row) for row in text.split(" / ")])
    if not is_table(table):
        raise NoText(text)
    return table


def _read_row(text):
    return tuple([_read_count(word) for word in text.split(" ")])


def _read_count(word):
    """Read a count; None, which no table has, where the word writes none."""
    # int refuses words of several thousand figures, so that too long ones must not come to it.
    if not writes_number(word) or len(word) > len(str(GREATEST_COUNT)):
        return None
    return int(word)


def writes_number(word):
    """Tell whether a word writes a whole number: figures, no 0 ahead but in 0 itself."""
    # isdigit alone lets figures of other scripts through.
    if not word.isascii() or not word.isdigit():
        return False
    return word == "0" or not word.startswith("0")
