"""What's said of a box."""

from pagemoves.hearing import HEADING, heading_level, is_of_class
from pagemoves.names import full_name, name_source, names_of, put_together
from pagemoves.visits import rule_of


def said_hint(visit, place):
    hint = visit.boxes[place].hint
    if hint == "" or name_source(visit, place) == "hint":
        return ""
    return names_of(visit, [hint])


def text_besides(visit, place):
    if rule_of(visit, place).whole or name_source(visit, place) == "text":
        return ""
    return visit.boxes[place].text


def in_quotes(ahead, text):
    return "" if text == "" else ahead + "\"" + text + "\""


def level_word(visit, place):
    return str(heading_level(visit.boxes[place])) if is_of_class(visit, place, HEADING) else ""


def on_word(visit, place):
    if visit.boxes[place].kind != "check":
        return ""
    return "on" if visit.on[place] else "not on"


def what_is_said(visit, place):
    return put_together([
        rule_of(visit, place).role,
        level_word(visit, place),
        in_quotes("", full_name(visit, place)),
        "off" if visit.boxes[place].off else "",
        on_word(visit, place),
        in_quotes("hint ", said_hint(visit, place)),
        in_quotes("text ", text_besides(visit, place)),
    ])
