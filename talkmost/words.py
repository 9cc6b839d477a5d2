"""The words of a text, and which of them are names."""

from talkmost.errors import BadText

LETTERS = "abcdefghijklmnopqrstuvwxyz"
DIGITS = "0123456789"
LONGEST_NAME = 12
KEPT_WORDS = ("house", "states", "hearer", "kinds", "acts", "end", "state", "is", "does", "teller")


def is_name(word):
    """Return whether the word is a name."""
    if word in KEPT_WORDS or not 1 <= len(word) <= LONGEST_NAME:
        return False
    return word[0] in LETTERS and all([sign in LETTERS + DIGITS for sign in word])


class Reader:
    """The words of a text, taken one after another."""

    def __init__(self, text):
        # Only spaces separate words: a bare split() would take other white space, too.
        self.words = [word for word in text.split(" ") if word]
        self.at = 0

    def ended(self):
        """Return whether all words are taken."""
        return self.at == len(self.words)

    def peek(self):
        """Return the next word, or behind the last one the empty text, which is no word."""
        return "" if self.ended() else self.words[self.at]

    def take(self, allowed):
        """Take and return the next word; refuse it if it is none of those that are allowed."""
        word = self.peek()
        if word not in allowed:
            raise BadText(self.at)
        self.at += 1
        return word

    def take_new_name(self, taken):
        """Take and return the next word; refuse it if it is no name, or is taken already."""
        word = self.peek()
        if not is_name(word) or word in taken:
            raise BadText(self.at)
        self.at += 1
        return word
