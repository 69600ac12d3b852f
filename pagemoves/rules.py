"""Rules: what each kind of box is called, and how it's said."""

from pagemoves.boxes import KINDS
from pagemoves.refusals import WrongText
from pagemoves.words import Words, is_small, lines_of, need_end

LONGEST_ROLE = 8
RESERVED_ROLES = ("focus", "whole", "from")
SOURCES = ("by", "label", "text", "kids", "hint")

FIRST_RULES = (
    "page page from by label\n"
    "part part from by label\n"
    "h1 heading whole from by label text kids\n"
    "h2 heading whole from by label text kids\n"
    "h3 heading whole from by label text kids\n"
    "p text from text\n"
    "link link focus whole from by label text kids hint\n"
    "button button focus whole from by label text kids hint\n"
    "field field focus from by label hint\n"
    "check check focus whole from by label text kids\n"
    "list list from by label\n"
    "item item from by label text\n"
    "table table from by label\n"
    "row row\n"
    "cell cell from text\n"
    "th head whole from label text kids\n"
    "image image whole from by label\n"
    "live live from by label\n"
    "modal modal from by label\n"
)


class Rule:
    def __init__(self, role, focus, whole, sources):
        self.role = role
        self.focus = focus
        self.whole = whole
        self.sources = sources


def take_role(words):
    role = words.take()
    if not is_small(role, LONGEST_ROLE) or role in RESERVED_ROLES:
        raise WrongText()
    return role


def take_source(words):
    source = words.take()
    if source not in SOURCES:
        raise WrongText()
    return source


def take_sources(words):
    sources = [take_source(words)]
    while not words.ended():
        sources.append(take_source(words))
    if len(set(sources)) < len(sources):
        raise WrongText()
    return sources


def read_rule(line, kind):
    words = Words(line)
    if not words.skip(kind):
        raise WrongText()
    role = take_role(words)
    focus = words.skip("focus")
    whole = words.skip("whole")
    sources = take_sources(words) if words.skip("from") else []
    need_end(words)
    return Rule(role, focus, whole, sources)


def read_rules(text):
    lines = lines_of(text)
    if len(lines) != len(KINDS):
        raise WrongText()
    rules = {}
    for kind, line in zip(KINDS, lines):
        rules[kind] = read_rule(line, kind)
    return rules
