"""Reading a row of a text sign by sign."""

from worthhouse.errors import BadText
from worthhouse.words import DIGITS, LETTERS, MOST_SIGNS, WORD_SIGNS, is_sign_of

WORTH_SIGNS = "abcdefghijklmnopqrstuvwxyz0123456789/"


class RowReader:
    """A row and how far it has been read.

    Each method that reads stops at the first sign that cannot stand. So a form
    that never goes back to try another way stops at the end of the longest
    beginning that some row has.
    """

    def __init__(self, number, row):
        self._number = number
        self._row = row
        self._at = 0

    def sign(self):
        """The sign that stands next, the empty string at the end of the row."""
        return self._row[self._at:self._at + 1]

    def stop(self):
        """Raises the error that the next sign, or the end of the row, cannot stand here."""
        raise BadText((self._number, self._at))

    def skip(self, signs):
        """Reads just these signs."""
        for sign in signs:
            if self.sign() != sign:
                self.stop()
            self._at += 1

    def take_run(self, signs, most):
        """Reads as many of these signs as there are, but not more than most (None: all)."""
        start = self._at
        while is_sign_of(self.sign(), signs) and (most is None or self._at - start < most):
            self._at += 1
        return self._row[start:self._at]

    def take_word(self):
        """Reads a word; what goes on behind 12 signs is left to what is read next."""
        if not is_sign_of(self.sign(), LETTERS):
            self.stop()
        return self.take_run(WORD_SIGNS, MOST_SIGNS)

    def take_worth(self):
        """Reads the signs of a worth, whether or not a scale has it."""
        if not is_sign_of(self.sign(), WORTH_SIGNS):
            self.stop()
        return self.take_run(WORTH_SIGNS, None)

    def take_number(self):
        """Reads the signs of a number without zeros ahead, whether or not it can be that of anything."""
        start = self.sign()
        if not is_sign_of(start, DIGITS):
            self.stop()
        return self.take_run(DIGITS, 1 if start == "0" else None)

    def end(self):
        """Looks whether the whole row has been read."""
        if self.sign() != "":
            self.stop()
