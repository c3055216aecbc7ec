"""What the readers of texts have in common: going on lexeme by lexeme, up to the first wrong place."""

from sweptfree.errors import BadText
from sweptfree.lexemes import lexemes_ahead


class Reader:
    """Goes through the lexemes of a text; raises BadText(place) at the first one that does not fit."""

    def __init__(self, text):
        rows, wrong = lexemes_ahead(text)
        self.rows = rows
        self.all_lexemes = wrong is None
        self.end = len(text) if wrong is None else wrong
        self.at = 0

    def next_place(self):
        """Return the place of the next lexeme, or, behind the last one, where the text goes wrong or ends."""
        if self.at < len(self.rows):
            return self.rows[self.at][2]
        return self.end

    def next_lexeme(self):
        """Return the next lexeme, or the empty string behind the last one."""
        if self.at < len(self.rows):
            return self.rows[self.at][1]
        return ""

    def next_sort(self):
        """Return the sort of the next lexeme, or the empty string behind the last one."""
        if self.at < len(self.rows):
            return self.rows[self.at][0]
        return ""

    def sees_integer(self):
        """Return whether an INT begins here."""
        return self.next_sort() == "numeral" or self.next_lexeme() == "-"

    def step(self, fits):
        """Go past the next lexeme and return it, if it fits."""
        if not fits:
            raise BadText(self.next_place())
        lexeme = self.next_lexeme()
        self.at += 1
        return lexeme

    def skip(self, lexeme):
        """Go past the next lexeme, which has to be this one."""
        self.step(self.next_lexeme() == lexeme)

    def take_name(self):
        """Read a NAME."""
        return self.step(self.next_sort() == "word")

    # A numeral at the wrong place may be too long for int, so only one that fits is made a number.
    def take_numeral(self):
        """Read a NUMERAL."""
        return int(self.step(self.next_sort() == "numeral"))

    def take_integer(self):
        """Read an INT."""
        if self.next_lexeme() != "-":
            return self.take_numeral()
        self.skip("-")
        return -int(self.step(self.next_sort() == "numeral" and self.next_lexeme() != "0"))

    def take_point(self):
        """Read a POINT."""
        self.skip("(")
        x = self.take_integer()
        self.skip(",")
        y = self.take_integer()
        self.skip(")")
        return (x, y)

    def take_number_behind(self, lexeme):
        """Read a NUMERAL behind the lexeme that tells what it is."""
        self.skip(lexeme)
        return self.take_numeral()

    def take_point_behind(self, lexeme):
        """Read a POINT behind the lexeme that tells what it is."""
        self.skip(lexeme)
        return self.take_point()

    def finish(self):
        """Nothing but blanks may follow any more."""
        if self.at < len(self.rows) or not self.all_lexemes:
            raise BadText(self.next_place())
