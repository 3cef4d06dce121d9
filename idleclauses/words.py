"""Lines of texts and their words, which are read one after another."""

from idleclauses.errors import BadText

MOST_FIGURES = 31
MOST_IN_ROW = 16


def lines_of(text):
    """The lines of a text; BadText of what is no string."""
    if not isinstance(text, str):
        raise BadText(None, None)
    return text.split("\n")


def integer_of(word):
    """The integer that a word is, in decimal without needless zeros, or None."""
    figures = word[1:] if word.startswith("-") else word
    if not figures.isdigit() or not figures.isascii() or len(figures) > MOST_FIGURES:
        return None
    if figures.startswith("0") and word != "0":
        return None
    return int(word)


class Words:
    """The words of a line, from the first one on; BadText tells which one cannot stand there."""

    def __init__(self, line, text):
        self.line = line
        self.words = text.split(" ")
        self.at = 0

    def next_of(self, wanted):
        """The next word, which has to be one of these."""
        if self.is_read() or self.words[self.at] not in wanted:
            raise BadText(self.line, self.at)
        self.at += 1
        return self.words[self.at - 1]

    def next_integer(self):
        """The next word, which has to be an integer."""
        integer = None if self.is_read() else integer_of(self.words[self.at])
        if integer is None:
            raise BadText(self.line, self.at)
        self.at += 1
        return integer

    def next_row(self):
        """The tuple of the next integers, ahead of which there is how many they are."""
        many = self.next_of([str(number) for number in range(MOST_IN_ROW + 1)])
        return tuple([self.next_integer() for _ in range(int(many))])

    def further_integers(self):
        """The tuple of all words that are left, which have to be integers."""
        return tuple([self.next_integer() for _ in range(len(self.words) - self.at)])

    def is_read(self):
        """Whether no word is left."""
        return self.at == len(self.words)

    def need_end(self):
        """Refuses a word too many."""
        if not self.is_read():
            raise BadText(self.line, self.at)
