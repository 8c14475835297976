"""The lines of a text, read one after another."""

from suregate.errors import InvalidText

DIGITS = "0123456789"
LONGEST_NUMBER = 6


class LineReader:
    """Reads the lines of a text in order; its methods of taking lines change it."""

    def __init__(self, text):
        lines = text.split("\n")
        # Behind the last newline stands nothing, or else the line that is invalid before all others.
        if lines.pop() != "":
            raise InvalidText(len(lines) + 1)
        self._rows = [line.split(" ") for line in lines]
        self._taken = 0

    def has_more(self):
        """Tells whether there is a further line."""
        return self._taken < len(self._rows)

    def take_title(self, word):
        """Takes the line that consists of this word, or raises InvalidText."""
        if not self.has_more() or self._rows[self._taken] != [word]:
            raise InvalidText(self._taken + 1)
        self._taken += 1

    def take_entries(self, word, entry_of):
        """Takes the next lines that begin with the word and go on as they should.

        The function entry_of makes an entry of the further words of a line, or None if they are wrong.
        """
        entries = []
        while self.has_more():
            first, *words = self._rows[self._taken]
            entry = entry_of(words) if first == word else None
            if entry is None:
                break
            entries.append(entry)
            self._taken += 1
        return entries

    def finish(self):
        """Raises InvalidText if a line is left."""
        if self.has_more():
            raise InvalidText(self._taken + 1)


def numbers_of(words):
    """Returns the tuple of the numbers that the words write, or None if one of them is no number."""
    if not all([is_number(word) for word in words]):
        return None
    return tuple([int(word) for word in words])


def is_number(word):
    """Tells whether the word is a number."""
    if len(word) < 1 or len(word) > LONGEST_NUMBER or not all([digit in DIGITS for digit in word]):
        return False
    return word == "0" or word[0] != "0"


def line_of(word, entries):
    """Returns the line of the word and the entries."""
    return " ".join([word] + [str(entry) for entry in entries]) + "\n"
