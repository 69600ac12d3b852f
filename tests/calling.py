"""Writes calls as the interface asks, and reads their answers."""

from pagemoves.pages import answers

FIRST_RULES = [
    "page page from by label",
    "part part from by label",
    "h1 heading whole from by label text kids",
    "h2 heading whole from by label text kids",
    "h3 heading whole from by label text kids",
    "p text from text",
    "link link focus whole from by label text kids hint",
    "button button focus whole from by label text kids hint",
    "field field focus from by label hint",
    "check check focus whole from by label text kids",
    "list list from by label",
    "item item from by label text",
    "table table from by label",
    "row row",
    "cell cell from text",
    "th head whole from label text kids",
    "image image whole from by label",
    "live live from by label",
    "modal modal from by label",
]


def row(text):
    numbers = list(text) if isinstance(text, (bytes, list)) else list(text.encode("latin-1"))
    return [len(numbers)] + numbers


def page_text(text):
    return [0] + row(text)


def page(*lines):
    return page_text("".join(line + "\n" for line in lines))


def rules_text(text):
    return [1] + row(text)


def rules(*lines):
    return rules_text("".join(line + "\n" for line in lines))


def changed_rules(*changed):
    """The rules at first, with these lines in the place of their kinds'."""
    by_kind = {line.split(" ")[0]: line for line in FIRST_RULES}
    for line in changed:
        by_kind[line.split(" ")[0]] = line
    return rules(*by_kind.values())


def press(box):
    return [2] + row(box)


def tab(box):
    return [4] + row(box)


def back(box):
    return [5] + row(box)


def next_of(number, box):
    return [6, number] + row(box)


def prev_of(number, box):
    return [7, number] + row(box)


def grid(box):
    return [9] + row(box)


def heads(box):
    return [10] + row(box)


def move(way, box):
    return [11, way] + row(box)


def sentence(box):
    return [12] + row(box)


def go(number):
    return [15, number]


def goback(number):
    return [16, number]


FOCUS = [3]
OUTLINE = [8]
ESCAPE = [13]
HERE = [14]
SIZE = [17]


def parts(given):
    """The answers of the calls, one list each."""
    found = []
    at = 0
    while at < len(given):
        found.append(given[at + 1:at + 1 + given[at]])
        at += 1 + given[at]
    return found


def ask(*calls):
    """The answers of these calls, on one new object."""
    return parts(answers([number for call in calls for number in call]))


def last(*calls):
    return ask(*calls)[-1]


class Answer:
    """Reads an answer, and tells whether all of it was read."""

    def __init__(self, numbers):
        self.numbers = list(numbers)

    def number(self):
        return self.numbers.pop(0)

    def text(self):
        count = self.number()
        found = bytes(self.numbers[:count]).decode("ascii")
        if len(found) != count:
            raise ValueError("a text that is cut off")
        self.numbers = self.numbers[count:]
        return found

    def one(self):
        """Whether it's 1, and not 0."""
        number = self.number()
        if number not in (0, 1):
            raise ValueError("neither 0 nor 1")
        return number == 1

    def texts(self):
        return [self.text() for turn in range(self.number())]

    def whole(self, found):
        if self.numbers:
            raise ValueError("more is answered than told")
        return found


def as_text(numbers):
    answer = Answer(numbers)
    return answer.whole(answer.text())


def as_texts(numbers):
    answer = Answer(numbers)
    return answer.whole(answer.texts())


def as_found(numbers):
    """None for 0, else the text behind 1."""
    answer = Answer(numbers)
    return answer.whole(answer.text() if answer.one() else None)


def as_outline(numbers):
    answer = Answer(numbers)
    count = answer.number()
    return answer.whole([(answer.number(), answer.text(), answer.text()) for turn in range(count)])


def as_grid(numbers):
    answer = Answer(numbers)
    return answer.whole([answer.texts() for turn in range(answer.number())])


def as_heads(numbers):
    answer = Answer(numbers)
    return answer.whole((answer.texts(), answer.texts()))


def as_escape(numbers):
    """None for 0, else the modal and what leads out of it."""
    answer = Answer(numbers)
    return answer.whole((answer.text(), answer.texts()) if answer.one() else None)


def as_here(numbers):
    answer = Answer(numbers)
    return answer.whole((answer.text(), answer.one()))


def as_gone(numbers):
    """None for 0, else the box and what's said of it."""
    answer = Answer(numbers)
    return answer.whole((answer.text(), answer.text()) if answer.one() else None)
