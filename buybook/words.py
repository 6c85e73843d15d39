"""Words and names: what the texts of markets and statements are made of."""

from buybook.errors import BadText

KEPT = ("market", "goods", "people", "end", "as", "better", "well", "than")
LETTERS = "abcdefghijklmnopqrstuvwxyz"
DIGITS = "0123456789"
MOST_CHARACTERS = 12


def is_name(word):
    """Return whether the word is a name."""
    if not 1 <= len(word) <= MOST_CHARACTERS or word in KEPT:
        return False
    return word[0] in LETTERS and all(c in LETTERS or c in DIGITS for c in word)


class Reader:
    """Reads the words of a text in order; raises BadText at the first one that is not due."""

    def __init__(self, text):
        # Only spaces separate words; split() alone would also split at tabs and line feeds.
        self.words = [word for word in text.split(" ") if word != ""]
        self.at = 0

    def sees(self, word):
        """Return whether this is the next word."""
        return self.at < len(self.words) and self.words[self.at] == word

    def read(self, allowed):
        """Return the next word, which must be one of those that are allowed."""
        if self.at == len(self.words) or self.words[self.at] not in allowed:
            raise BadText(self.at)
        self.at += 1
        return self.words[self.at - 1]

    def read_name(self, taken):
        """Return the next word, which must be a name that is not taken."""
        if self.at == len(self.words) or not is_name(self.words[self.at]):
            raise BadText(self.at)
        if self.words[self.at] in taken:
            raise BadText(self.at)
        self.at += 1
        return self.words[self.at - 1]

    def finish(self):
        """Return if no word is left."""
        if self.at < len(self.words):
            raise BadText(self.at)
