"""Logs as texts, and texts as logs."""

from flushtold.errors import ParseError
from flushtold.logs import EVENTS, are_ends, are_seen, check_log, is_lead, is_row

# The first words of the lines, in their order.
HEADS = ("come", "begin", "good", "bad", "lead", "ends", "stops", "seen")


def word_text(word):
    """Return the text of a word that is told."""
    return word if word else "none"


def row_texts(row):
    """Return the texts of the cells of a row."""
    return [f"{place}:{word_text(word)}" for place, word in row]


def format_log(log):
    """Return the text of a log."""
    check_log(log)
    table, lead, ends, stops, seen = log
    tails = [
        [word_text(table[0])],
        row_texts(table[1]),
        row_texts(table[2]),
        row_texts(table[3]),
        lead,
        [f"{result}:{report}" for result, report in ends],
        ["yes" if stops else "no"],
        seen,
    ]
    return "\n".join([" ".join([head, *tail]) for head, tail in zip(HEADS, tails)])


def read_word(text):
    """Return the word that has the text, or None if none has it."""
    if text == "none":
        return ""
    if text in ("yes", "no"):
        return text
    return None


def read_come(texts):
    """Return the word that the one text tells, or None if it tells none."""
    return read_word(texts[0]) if len(texts) == 1 else None


def read_cell(text):
    """Return the two parts of a cell's text; they are no cell if the text is none of a cell."""
    place, _, word = text.partition(":")
    return (place, read_word(word))


def read_row(texts):
    """Return the row of a table that has the texts, or None if none has them."""
    row = tuple([read_cell(text) for text in texts])
    return row if is_row(row) else None


def read_lead(texts):
    """Return what becomes of the lead by the texts, or None if they do not tell it."""
    lead = tuple(texts)
    return lead if is_lead(lead) else None


def read_ends(texts):
    """Return the ends that have the texts, or None if none have them."""
    ends = tuple([tuple(text.split(":")) for text in texts])
    return ends if are_ends(ends) else None


def read_stops(texts):
    """Return whether stops may come by the texts, or None if they do not tell it."""
    if texts == ["yes"]:
        return True
    if texts == ["no"]:
        return False
    return None


def read_seen(texts):
    """Return the places that the texts tell, or None if they tell none."""
    seen = tuple(texts)
    return seen if are_seen(seen) else None


def read_line(head, line):
    """Return the part of a log that the line with this head tells, or None if it tells none."""
    first, *texts = line.split(" ")
    if first != head:
        return None
    if head in EVENTS:
        return read_row(texts)
    if head == "come":
        return read_come(texts)
    if head == "lead":
        return read_lead(texts)
    if head == "ends":
        return read_ends(texts)
    if head == "stops":
        return read_stops(texts)
    return read_seen(texts)


def parse_log(text):
    """Return the log that has the text."""
    if not isinstance(text, str):
        raise ParseError(0)
    lines = text.split("\n")
    parts = []
    for index, (head, line) in enumerate(zip(HEADS, lines)):
        part = read_line(head, line)
        if part is None:
            raise ParseError(index)
        parts.append(part)
    # With fewer lines than heads the first that lacks is at fault, with more the first that is over.
    if len(lines) != len(HEADS):
        raise ParseError(len(parts))
    return (tuple(parts[:4]), *parts[4:])
