"""Pressing a box."""

from pagemoves.boxes import place_of


def does_something(box):
    return box.kind == "check" or len(box.acts) > 0


def do_act(visit, deed, ident):
    place = place_of(visit.boxes, ident)
    if deed == "flip":
        visit.hidden[place] = not visit.hidden[place]
    else:
        visit.hidden[place] = deed == "hide"


def press_box(visit, place):
    box = visit.boxes[place]
    if box.kind == "check":
        visit.on[place] = not visit.on[place]
    for deed, ident in box.acts:
        do_act(visit, deed, ident)
