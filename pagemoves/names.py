"""The names of boxes."""

from pagemoves.boxes import place_of
from pagemoves.visits import rule_of, shown_own_places


def put_together(names):
    return " ".join([name for name in names if name != ""])


def kids_name(visit, place):
    return put_together([inner_name(visit, kid) for kid in shown_own_places(visit, place)])


def inner_source(visit, place, source):
    box = visit.boxes[place]
    if source == "label":
        return box.label
    if source == "text":
        return box.text
    if source == "kids":
        return kids_name(visit, place)
    return ""


# This goes into itself through kids, but never deeper than boxes are.
def inner_name(visit, place):
    for source in rule_of(visit, place).sources:
        name = inner_source(visit, place, source)
        if name != "":
            return name
    return ""


def names_of(visit, idents):
    return put_together([inner_name(visit, place_of(visit.boxes, ident)) for ident in idents])


def outer_source(visit, place, source):
    box = visit.boxes[place]
    if source == "by":
        return names_of(visit, box.by)
    if source == "hint" and box.hint != "":
        return names_of(visit, [box.hint])
    return inner_source(visit, place, source)


# The empty text, which is no source, stands for a name that's nothing.
def name_source(visit, place):
    for source in rule_of(visit, place).sources:
        if outer_source(visit, place, source) != "":
            return source
    return ""


def full_name(visit, place):
    return outer_source(visit, place, name_source(visit, place))
