"""Reading texts row by row, and the words that stand in them."""

from countonce.errors import InvalidText

HIGHEST = 1000000000


def is_name(word):
    """Tell whether a word is a name: one to eight letters from a to z."""
    return 1 <= len(word) <= 8 and all(["a" <= letter <= "z" for letter in word])


def is_number(word):
    """Tell whether a word is a value in digits, without leading zeros."""
    # Longer words are above the highest value, and Python refuses to read very long ones.
    if len(word) < 1 or len(word) > 10:
        return False
    if not all(["0" <= digit <= "9" for digit in word]):
        return False
    return str(int(word)) == word and int(word) <= HIGHEST


class Rows:
    """The rows of a text, read from the first one to the last one.

    Each row is refused as soon as no text of the required form goes on with it,
    and so is the end of the text, by the number of its rows.
    """

    def __init__(self, text):
        self._rows = text.split("\n")
        self._at = 0

    def all_read(self):
        """Tell whether no row is left."""
        return self._at == len(self._rows)

    def begins(self, start):
        """Tell whether there is a next row, and it begins with start."""
        return not self.all_read() and self._rows[self._at].startswith(start)

    def words(self, start):
        """Read the next row, which must begin with start, and return the words behind start."""
        if not self.begins(start):
            raise InvalidText(self._at)
        row = self._rows[self._at]
        self._at += 1
        # Spaces too many become empty words, which are no names, numbers or signs.
        return row[len(start):].split(" ")

    def need(self, holds):
        """Refuse the row that was read last if this does not hold."""
        if not holds:
            raise InvalidText(self._at - 1)

    def new_name(self, start, taken):
        """Read the next row, which must be start and a name that is not taken, and return the name."""
        words = self.words(start)
        self.need(len(words) == 1 and is_name(words[0]) and words[0] not in taken)
        return words[0]

    def exactly(self, row):
        """Read the next row, which must be this one."""
        if self.all_read() or self._rows[self._at] != row:
            raise InvalidText(self._at)
        self._at += 1

    def finish(self):
        """Refuse the next row if one is left."""
        if not self.all_read():
            raise InvalidText(self._at)
