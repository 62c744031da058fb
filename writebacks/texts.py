"""The text of a view and a table of it."""

from writebacks.errors import NoText
from writebacks.tables import is_table, is_view, need_table

REFUSED = "-"


def words(entries):
    """Return numbers, and a sign for each None, with single spaces between them."""
    return " ".join([REFUSED if entry is None else str(entry) for entry in entries])


def table_text(view, table):
    """Return the text of a view and a table of it."""
    need_table(view, table)
    lines = [f"view {words(view)}"] + [f"{state}: {words(row)}" for state, row in enumerate(table)]
    return "".join([line + "\n" for line in lines])


def read_table(text):
    """Return the view and the table whose text is given, sound or not."""
    if not isinstance(text, str):
        raise NoText()
    first, *others = [line.split(" ") for line in text.split("\n")]
    view = _entries(first)
    # Behind the last line feed stands no line.
    table = tuple([_entries(line) for line in others[:-1]])
    # The reading passes over much that no text has, but then the text of what it found is another one.
    if not is_view(view) or not is_table(view, table) or table_text(view, table) != text:
        raise NoText()
    return (view, table)


def _entries(line):
    """Return the entries behind the first word of a line."""
    return tuple([_entry(word) for word in line[1:]])


def _entry(word):
    # No view has so many states that a number in its text has two digits.
    return int(word) if len(word) == 1 and word in "0123456789" else None
