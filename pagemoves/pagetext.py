"""A page's text as a whole."""

from pagemoves.boxes import has_box
from pagemoves.boxtext import read_box
from pagemoves.refusals import WrongText
from pagemoves.words import lines_of

FIRST_PAGE = "page top\n"

MOST_BOXES = 16
DEEPEST = 5

# Nothing else stands in these, and what stands in them stands nowhere else.
HOLDERS = {"table": ("row",), "row": ("cell", "th"), "list": ("item",)}
HELD = ("row", "cell", "th", "item")


def may_stand(outer, inner):
    if outer in HOLDERS:
        return inner in HOLDERS[outer]
    return inner not in HELD


def check_first(box):
    if box.kind != "page" or box.deep != 0 or box.hidden:
        raise WrongText()


def check_later(boxes, place):
    box = boxes[place]
    if box.kind == "page" or box.deep < 1 or box.deep > DEEPEST:
        raise WrongText()
    if box.deep > boxes[place - 1].deep + 1:
        raise WrongText()


def set_parent(boxes, place):
    box = boxes[place]
    outer = place - 1
    while boxes[outer].deep >= box.deep:
        outer = outer - 1
    box.parent = outer
    if not may_stand(boxes[outer].kind, box.kind):
        raise WrongText()


def named_idents(box):
    idents = box.by + [ident for deed, ident in box.acts]
    if box.hint != "":
        idents.append(box.hint)
    return idents


def check_idents(boxes):
    if len(set([box.ident for box in boxes])) < len(boxes):
        raise WrongText()
    for box in boxes:
        for ident in named_idents(box):
            if not has_box(boxes, ident):
                raise WrongText()


def read_page(text):
    boxes = [read_box(line) for line in lines_of(text)]
    if len(boxes) > MOST_BOXES:
        raise WrongText()
    check_first(boxes[0])
    for place in range(1, len(boxes)):
        check_later(boxes, place)
        set_parent(boxes, place)
    check_idents(boxes)
    return boxes
