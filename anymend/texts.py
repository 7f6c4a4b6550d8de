"""Texts that are cut into lines and words."""

from anymend.errors import BadText

LETTERS = "abcdefghijklmnopqrstuvwxyz"
# Not isdigit: it also takes digits of other scripts.
DIGITS = "0123456789"
LONGEST_NAME = 12
LONGEST_NUMBER = 4


def lines_of(text):
    """The lines of a text; BadText(0, 0) for a value that is no string."""
    if not isinstance(text, str):
        raise BadText(0, 0)
    lines = text.split("\n")
    # Nothing follows a last line feed, and the empty text has no lines.
    if lines[-1] == "":
        lines.pop()
    return lines


def is_name(value):
    """Whether a value is a NAME."""
    if not isinstance(value, str) or not 1 <= len(value) <= LONGEST_NAME:
        return False
    return value[0] in LETTERS and all(sign in LETTERS or sign in DIGITS for sign in value)


def number_in(word, least, most):
    """What a word tells if it is a NUMBER within these bounds, else None."""
    if not 1 <= len(word) <= LONGEST_NUMBER or not all(sign in DIGITS for sign in word):
        return None
    number = int(word)
    return number if least <= number <= most else None


class Line:
    """A line that is read word by word; each method raises BadText at the word that is wrong."""

    def __init__(self, number, text):
        self.number = number
        self.words = text.split(" ")
        self.many = 0

    def take(self):
        """The next word."""
        self.many += 1
        if self.many > len(self.words):
            raise BadText(self.number, self.many)
        return self.words[self.many - 1]

    def refuse(self):
        """The word that was taken last is wrong."""
        raise BadText(self.number, self.many)

    def take_this(self, word):
        """Take the next word, which must be this one."""
        if self.take() != word:
            self.refuse()

    def take_name(self):
        """The next word, a NAME."""
        word = self.take()
        if not is_name(word):
            self.refuse()
        return word

    def take_number(self, least, most):
        """What the next word tells, a NUMBER within these bounds."""
        number = number_in(self.take(), least, most)
        if number is None:
            self.refuse()
        return number

    def is_over(self):
        """Whether no word is left."""
        return self.many == len(self.words)

    def is_next(self, word):
        """Whether the next word is this one."""
        return not self.is_over() and self.words[self.many] == word

    def finish(self):
        """No word may be left."""
        if not self.is_over():
            raise BadText(self.number, self.many + 1)
