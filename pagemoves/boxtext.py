"""A line of a page's text: one box."""

from pagemoves.boxes import KINDS, Box
from pagemoves.refusals import WrongText
from pagemoves.words import Words, is_small, need_end, take_saying

LONGEST_ID = 6
RESERVED = ("label", "by", "hint", "hidden", "off", "on", "order", "press")
NUMBERS = ("1", "2", "3", "4", "5", "6", "7", "8", "9")
DEEDS = ("show", "hide", "flip")
PRESSED_KINDS = ("link", "button", "check")
MOST_LABELLERS = 3
MOST_ACTS = 3


def is_ident(word):
    return is_small(word, LONGEST_ID) and word not in RESERVED


def need_ident(word):
    if not is_ident(word):
        raise WrongText()
    return word


def take_kind(words):
    kind = words.take()
    if kind not in KINDS:
        raise WrongText()
    return kind


def take_labellers(words):
    idents = [need_ident(words.take())]
    while is_ident(words.ahead()):
        idents.append(words.take())
    if len(idents) > MOST_LABELLERS or len(set(idents)) < len(idents):
        raise WrongText()
    return idents


def take_number(words):
    word = words.take()
    if word not in NUMBERS:
        raise WrongText()
    return int(word)


def read_act(word):
    parts = word.split(":")
    if len(parts) != 2 or parts[0] not in DEEDS:
        raise WrongText()
    return (parts[0], need_ident(parts[1]))


def take_acts(words):
    acts = [read_act(words.take())]
    while not words.ended():
        acts.append(read_act(words.take()))
    if len(acts) > MOST_ACTS:
        raise WrongText()
    return acts


def take_names(words, box):
    if words.ahead().startswith("\""):
        box.text = take_saying(words)
    if words.skip("label"):
        box.label = take_saying(words)
    if words.skip("by"):
        box.by = take_labellers(words)
    if words.skip("hint"):
        box.hint = need_ident(words.take())


def take_marks(words, box):
    box.hidden = words.skip("hidden")
    box.off = words.skip("off")
    box.on = words.skip("on")
    if words.skip("order"):
        box.order = take_number(words)
    if words.skip("press"):
        box.acts = take_acts(words)


def check_marks(box):
    if box.on and box.kind != "check":
        raise WrongText()
    if box.acts and box.kind not in PRESSED_KINDS:
        raise WrongText()


def read_box(line):
    bare = line.lstrip(" ")
    blanks = len(line) - len(bare)
    if blanks % 2 != 0:
        raise WrongText()
    words = Words(bare)
    kind = take_kind(words)
    box = Box(blanks // 2, kind, need_ident(words.take()))
    take_names(words, box)
    take_marks(words, box)
    need_end(words)
    check_marks(box)
    return box
