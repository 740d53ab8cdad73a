"""Reading texts sign by sign, and the texts of worths."""

from shownviews.errors import ViewError


class NotRead(ViewError):
    """A text has not the form that is read; the caller tells it by an error of its own."""


class Reader:
    """Goes through a text, from its first sign on."""

    def __init__(self, text):
        self.text = text
        self.at = 0

    def sees(self, word):
        return self.text.startswith(word, self.at)

    def is_done(self):
        return self.at == len(self.text)

    def took(self, word):
        """Whether the word stands here; then it is gone by."""
        if not self.sees(word):
            return False
        self.at += len(word)
        return True

    def take(self, word):
        if not self.took(word):
            raise NotRead()

    def take_any(self, words):
        """The first of the words that stands here."""
        for word in words:
            if self.took(word):
                return word
        raise NotRead()

    def take_signs(self, low, high):
        """The longest run, not an empty one, of signs from low to high."""
        start = self.at
        while self.at < len(self.text) and low <= self.text[self.at] <= high:
            self.at += 1
        if self.at == start:
            raise NotRead()
        return self.text[start:self.at]

    def take_one(self):
        """The sign that stands here, whichever it is."""
        if self.is_done():
            raise NotRead()
        self.at += 1
        return self.text[self.at - 1]

    def take_many(self, many):
        """So many signs, whichever they are."""
        if self.at + many > len(self.text):
            raise NotRead()
        self.at += many
        return self.text[self.at - many:self.at]

    def sees_letter(self):
        return not self.is_done() and "a" <= self.text[self.at] <= "z"

    def sees_digit(self):
        return not self.is_done() and "0" <= self.text[self.at] <= "9"


def need(flag):
    """What is read goes on only where something holds of it."""
    if not flag:
        raise NotRead()


def read_name(reader):
    return reader.take_signs("a", "z")


def read_number(reader, most):
    """A number of at most so many digits; more are not handed to int, which does not take all lengths."""
    digits = reader.take_signs("0", "9")
    if len(digits) > most:
        raise NotRead()
    return int(digits)


def read_integer(reader, most):
    if reader.took("-"):
        return -read_number(reader, most)
    return read_number(reader, most)


def read_word(reader):
    reader.take("'")
    signs = []
    while not reader.took("'"):
        if reader.took("~"):
            signs.append(reader.take_any(["'", "~"]))
        else:
            signs.append(reader.take_one())
    return "".join(signs)


def worth_text(worth):
    """The text of a worth: digits, or a word in quotes, with a ~ ahead of each quote and ~ in it."""
    if isinstance(worth, str):
        escaped = worth.replace("~", "~~").replace("'", "~'")
        return f"'{escaped}'"
    return str(worth)
