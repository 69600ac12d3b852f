"""The lines of a text, and the words of a line."""

from pagemoves.refusals import WrongText

LONGEST_SAYING = 20


def lines_of(text):
    if not text.endswith("\n"):
        raise WrongText()
    return text[:-1].split("\n")


def is_small(word, longest):
    return word.isalpha() and word.islower() and len(word) <= longest


def is_saying(text):
    return len(text) <= LONGEST_SAYING and all([word.isalnum() for word in text.split(" ")])


class Words:
    def __init__(self, line):
        self.parts = line.split(" ")
        self.at = 0

    def ended(self):
        return self.at >= len(self.parts)

    # Behind the last word comes the empty one: no form of a word allows it.
    def ahead(self):
        return "" if self.ended() else self.parts[self.at]

    def take(self):
        word = self.ahead()
        self.at = self.at + 1
        return word

    def skip(self, word):
        found = self.ahead() == word
        if found:
            self.at = self.at + 1
        return found


# A saying may have blanks, so it may be spread over several words.
def take_saying(words):
    quoted = words.take()
    while not quoted.endswith("\"") and not words.ended():
        quoted = quoted + " " + words.take()
    saying = quoted[1:-1]
    if not quoted.startswith("\"") or not quoted.endswith("\"") or not is_saying(saying):
        raise WrongText()
    return saying


def need_end(words):
    if not words.ended():
        raise WrongText()
