"""The lexemes of a text: words, numerals and signs."""

from sweptfree.errors import BadText
from sweptfree.words import DIGITS, LETTERS, LONGEST_WORD

BLANKS = " \n"
SIGNS = "{}()[];,/-"


def lexemes(text):
    """Return the list of the lexemes as tuples (sort, lexeme, place), or raise BadText(place)."""
    rows, wrong = lexemes_ahead(text)
    if wrong is not None:
        raise BadText(wrong)
    return rows


def lexemes_ahead(text):
    """Return the lexemes ahead of the first character that begins none, and the place of this one or None."""
    rows = []
    at = 0
    while at < len(text):
        if text[at] in BLANKS:
            at += 1
        else:
            row = lexeme_at(text, at)
            if row is None:
                return rows, at
            rows.append(row)
            at += len(row[1])
    return rows, None


def lexeme_at(text, at):
    """Return the tuple of the lexeme that begins at a place, or None."""
    first = text[at]
    if first in SIGNS:
        return ("sign", first, at)
    if first in DIGITS:
        return ("numeral", text[at:numeral_end(text, at)], at)
    if first in LETTERS:
        end = word_end(text, at)
        if end - at <= LONGEST_WORD:
            return ("word", text[at:end], at)
    return None


def numeral_end(text, at):
    """Return the place behind the numeral that begins at a place."""
    if text[at] == "0":
        return at + 1
    end = at
    while end < len(text) and text[end] in DIGITS:
        end += 1
    return end


def word_end(text, at):
    """Return the place behind all letters and digits that follow each other from a place on."""
    end = at
    while end < len(text) and (text[end] in LETTERS or text[end] in DIGITS):
        end += 1
    return end
