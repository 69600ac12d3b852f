"""The names of boxes."""

from pagemoves.boxes import own_places, place_of
from pagemoves.visits import rule_of


def put_together(names):
    return " ".join([name for name in names if name != ""])


def kids_name(visit, place):
    kids = own_places(visit.boxes, place)
    return put_together([inner_name(visit, kid) for kid in kids if not visit.hidden[kid]])


def inner_source(visit, place, source):
    box = visit.boxes[place]
    if source == "label":
        return box.label
    if source == "text":
        return box.text
    if source == "kids":
        return kids_name(visit, place)
    return ""


# This goes into itself through kids, but never deeper than boxes are.
def inner_name(visit, place):
    for source in rule_of(visit, place).sources:
        name = inner_source(visit, place, source)
        if name != "":
            return name
    return ""


def names_of(visit, idents):
    return put_together([inner_name(visit, place_of(visit.boxes, ident)) for ident in idents])


def outer_source(visit, place, source):
    box = visit.boxes[place]
    if source == "by":
        return names_of(visit, box.by)
    if source == "hint" and box.hint != "":
        return names_of(visit, [box.hint])
    return inner_source(visit, place, source)


def full_name(visit, place):
    for source in rule_of(visit, place).sources:
        name = outer_source(visit, place, source)
        if name != "":
            return name
    return ""
