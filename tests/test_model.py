"""The program beside a second one, told from the document in another way, on many lines of calls.

The lines are made from fixed seeds: each run has the same.
"""

import random
import re
import unittest

from pagemoves.pages import answers

from tests.calling import FIRST_RULES, FOCUS, OUTLINE, SIZE, back, next_of, page_text, press, prev_of, rules_text, tab

KINDS = [line.split(" ")[0] for line in FIRST_RULES]
ID = r"(?!(?:label|by|hint|hidden|off|on|order|press)(?![a-z]))[a-z]{1,6}"
SAYING = r'"(?=[^"]{1,20}")[A-Za-z0-9]+(?: [A-Za-z0-9]+)*"'
BOX = re.compile(
    r"(?P<deep>(?:  ){0,5})(?P<kind>" + "|".join(KINDS) + r") (?P<id>" + ID + r")(?: (?P<text>" + SAYING + r"))?"
    r"(?: label (?P<label>" + SAYING + r"))?(?: by (?P<by>" + ID + "(?: " + ID + r"){0,2}))?(?: hint (?P<hint>" + ID + r"))?"
    r"(?P<hidden> hidden)?(?P<off> off)?(?P<on> on)?(?: order (?P<order>[1-9]))?"
    r"(?: press (?P<acts>(?:show|hide|flip):" + ID + "(?: (?:show|hide|flip):" + ID + r"){0,2}))?\n")
RULE = r"(?P<kind>{}) (?!(?:focus|whole|from)(?![a-z]))[a-z]{{1,8}}(?P<focus> focus)?(?P<whole> whole)?" \
       r"(?: from (?P<sources>(?:by|label|text|kids|hint)(?: (?:by|label|text|kids|hint))*))?\n"
NEEDS = {"row": {"table"}, "cell": {"row"}, "th": {"row"}, "item": {"list"}}
HOLDS = {"table": {"row"}, "row": {"cell", "th"}, "list": {"item"}}


def read_page(text):
    """The boxes of a page's text as dicts, or None."""
    lines = text.splitlines(keepends=True) if re.fullmatch(r"[ -~\n]*", text) else [""]
    found = [BOX.fullmatch(line) for line in lines]
    if not 1 <= len(found) <= 16 or None in found:
        return None
    boxes = [match.groupdict() for match in found]
    path = []
    for place, box in enumerate(boxes):
        deep = len(box["deep"]) // 2
        if deep > len(path) or (deep == 0) != (place == 0) or (box["kind"] == "page") != (place == 0):
            return None
        path = path[:deep]
        box["around"] = [outer["id"] for outer in path]
        outer = path[-1]["kind"] if path else "none"
        if outer not in NEEDS.get(box["kind"], {outer}) or box["kind"] not in HOLDS.get(outer, {box["kind"]}):
            return None
        path.append(box)
        box["by"] = (box["by"] or "").split()
        box["acts"] = [tuple(act.split(":")) for act in (box["acts"] or "").split()]
        if (box["on"] and box["kind"] != "check") or len(set(box["by"])) != len(box["by"]):
            return None
        if box["acts"] and box["kind"] not in ("link", "button", "check"):
            return None
    ids = [box["id"] for box in boxes]
    named = [name for box in boxes for name in box["by"] + [act[1] for act in box["acts"]] + [box["hint"] or ids[0]]]
    return None if boxes[0]["hidden"] or len(set(ids)) != len(ids) or set(named) - set(ids) else boxes


def read_rules(text):
    match = re.fullmatch("".join("(" + re.sub(r"\?P<\w+>", "?:", RULE.format(kind)) + ")" for kind in KINDS), text)
    if not match:
        return None
    told = {}
    for kind, line in zip(KINDS, match.groups()):
        told[kind] = re.fullmatch(RULE.format(kind), line).groupdict()
        sources = (told[kind]["sources"] or "").split()
        if len(set(sources)) != len(sources):
            return None
        told[kind]["sources"] = sources
    return told


class Model:
    def __init__(self):
        self.turn_to(read_page("page top\n"))
        self.rules = read_rules("".join(line + "\n" for line in FIRST_RULES))

    def turn_to(self, boxes):
        self.boxes = {box["id"]: box for box in boxes}
        self.ids = list(self.boxes)
        self.hidden = {box["id"] for box in boxes if box["hidden"]}
        self.on = {box["id"] for box in boxes if box["on"]}

    def rule(self, name):
        return self.rules[self.boxes[name]["kind"]]

    def visible(self):
        return [name for name in self.ids if not self.hidden & {name, *self.boxes[name]["around"]}]

    def modal(self):
        return ([None] + [name for name in self.visible() if self.boxes[name]["kind"] == "modal"])[-1]

    def reached(self):
        inside = [name for name in self.visible() if not self.boxes[name]["off"]]
        return [name for name in inside if self.modal() in [None] * (not self.modal()) + self.boxes[name]["around"]]

    def heard(self, number):
        classes = ["", "h1 h2 h3", "", "link", "field check", "table", "list"]
        told = []
        for name in self.visible():
            around = self.boxes[name]["around"]
            if any(self.rule(outer)["whole"] for outer in around) or (self.modal() and self.modal() not in around + [name]):
                continue
            of_class = self.boxes[name]["kind"] in classes[number].split()
            if number == 0 or (number == 2 and self.rule(name)["focus"]) or of_class:
                told.append(name)
        return told

    def order(self):
        names = [name for name in self.reached() if self.rule(name)["focus"]]
        return sorted(names, key=lambda name: (int(self.boxes[name]["order"] or 10), self.ids.index(name)))

    def name(self, name, inner):
        box = self.boxes[name]
        kids = [other for other in self.ids if self.boxes[other]["around"][-1:] == [name] and other not in self.hidden]
        for source in self.rule(name)["sources"]:
            if source in ("label", "text"):
                given = [(box[source] or "").strip('"')]
            elif source == "kids":
                given = [self.name(kid, True) for kid in kids]
            elif inner:
                given = []
            else:
                given = [self.name(other, True) for other in (box["by"] if source == "by" else [box["hint"]]) if other]
            if any(given):
                return " ".join(filter(None, given))
        return ""

    def press(self, name):
        box = self.boxes[name]
        if box["kind"] != "check" and not box["acts"]:
            return [-5]
        if name not in self.reached():
            return [-6]
        if box["kind"] == "check":
            self.on ^= {name}
        for deed, other in box["acts"]:
            self.hidden = {"show": self.hidden - {other}, "hide": self.hidden | {other}, "flip": self.hidden ^ {other}}[deed]
        return [len(self.hidden), len(self.on)]

    def answer(self, call):
        number = call[0]
        if number == 3:
            return [len(self.order())] + [part for name in self.order() for part in coded(name)]
        if number == 8:
            told = [[int(self.boxes[name]["kind"][1])] + coded(name) + coded(self.name(name, False)) for name in self.heard(1)]
            return [len(told)] + sum(told, [])
        if number == 17:
            return [len(self.heard(0)), len(self.order()), len(self.heard(1))]
        text = bytes(call[3 if number in (6, 7) else 2:]).decode("latin-1")
        if number in (0, 1):
            return self.take(number, text)
        if number in (6, 7) and call[1] not in range(7):
            return [-2]
        if text not in self.ids:
            return [-3]
        return self.press(text) if number == 2 else self.step(number, call[1], text)

    def take(self, number, text):
        found = read_page(text) if number == 0 else read_rules(text)
        if found is None:
            return [-1]
        if number == 0:
            self.turn_to(found)
            return [len(found)]
        self.rules = found
        return [sum(1 for rule in found.values() if rule["focus"])]

    def step(self, number, of, name):
        if number in (4, 5):
            order = self.order() * 2
            if name not in order:
                return [-6]
            return coded(order[order.index(name) + 1] if number == 4 else order[::-1][order[::-1].index(name) + 1])
        cut = self.ids.index(name)
        places = self.ids[cut + 1:] if number == 6 else self.ids[:cut][::-1]
        found = [other for other in places if other in self.heard(of)]
        return [1] + coded(found[0]) if found else [0]


def coded(text):
    return [len(text)] + list(text.encode("ascii"))


class Maker:
    """Makes texts and lines of calls; some of the texts are spoilt."""

    def __init__(self, seed):
        self.chance = random.Random(seed)

    def some(self, part):
        return self.chance.random() < part

    def saying(self):
        return '"' + " ".join(self.chance.choice(["A", "b1", "Cd", "007", "eF g"]) for turn in range(self.chance.randint(1, 3))) + '"'

    def kind(self, outer, deep):
        if outer in HOLDS:
            return self.chance.choice(sorted(HOLDS[outer]))
        return self.chance.choice([kind for kind in KINDS if kind not in NEEDS and kind != "page"] + ["link", "check", "modal", "h1"])

    def page(self):
        ids = [chr(97 + place) + self.chance.choice(["", "x", "show"]) for place in range(self.chance.randint(1, 16))]
        lines = []
        path = []
        for place, name in enumerate(ids):
            deep = self.chance.randint(1, min(5, len(path))) if place else 0
            path = path[:deep]
            kind = self.kind(path[-1], deep) if place else "page"
            path.append(kind)
            lines.append("  " * deep + " ".join([kind, name] + self.attributes(kind, ids, place)) + "\n")
        return "".join(lines)

    def attributes(self, kind, ids, place):
        words = [self.saying()] if self.some(0.5) else []
        words += ["label " + self.saying()] if self.some(0.2) else []
        words += ["by " + " ".join(self.chance.sample(ids, min(len(ids), self.chance.randint(1, 3))))] if self.some(0.3) else []
        words += ["hint " + self.chance.choice(ids)] if self.some(0.2) else []
        words += ["hidden"] if place and self.some(0.6 if kind == "modal" else 0.15) else []
        words += ["off"] if self.some(0.1) else []
        words += ["on"] if kind == "check" and self.some(0.5) else []
        words += ["order " + self.chance.choice("1239")] if self.some(0.3) else []
        if kind in ("link", "button", "check") and self.some(0.7):
            words.append("press " + " ".join(self.chance.choice(["show:", "hide:", "flip:"]) + self.chance.choice(ids)
                                             for turn in range(self.chance.randint(1, 3))))
        return words

    def rules(self):
        lines = []
        for line in FIRST_RULES:
            if self.some(0.4):
                sources = self.chance.sample(["by", "label", "text", "kids", "hint"], self.chance.randint(0, 5))
                line = line.split(" ")[0] + " role" + " focus" * self.some(0.4) + " whole" * self.some(0.2)
                line += " from " * bool(sources) + " ".join(sources)
            lines.append(line + "\n")
        return "".join(lines)

    def spoilt(self, text):
        for turn in range(self.chance.randint(1, 2)):
            at = self.chance.randrange(len(text) + 1)
            words = text.split(" ")
            left, right = self.chance.randrange(len(words)), self.chance.randrange(len(words))
            changed = list(words)
            changed[left], changed[right] = words[right], words[left]
            text = self.chance.choice([
                text[:at] + text[at + 1:], text[:at] + self.chance.choice(' "a:Z9\n?\xff') + text[at:], text[:at] + text[at + 1:] + "\n",
                " ".join(words[:left] + words[left + 1:]), " ".join(words[:left] + [words[right]] + words[left:]), " ".join(changed),
                text[:at] + self.chance.choice([" hidden", " on", " off", " by a", "  ", "\n  p zz"]) + text[at:]])
        return text

    def line(self):
        text = self.page()
        calls = [page_text(text)]
        for turn in range(self.chance.randint(5, 40)):
            names = re.findall(r"(?m)^ *\w+ (\w+)", text) + ["top", "zz", ""]
            name = self.chance.choice(names)
            kind = self.chance.randrange(20)
            if kind == 0:
                calls.append(page_text(self.spoilt(text)))
            elif kind == 1:
                calls.append(rules_text(self.rules()))
            elif kind == 2:
                calls.append(rules_text(self.spoilt(self.rules())))
            elif kind < 9:
                calls.append(press(name))
            else:
                of = self.chance.randint(-1, 7)
                calls.append(self.chance.choice([FOCUS, OUTLINE, SIZE, tab(name), back(name), next_of(of, name), prev_of(of, name)]))
        return calls


class BesideTheModel(unittest.TestCase):
    def expected(self, calls):
        model = Model()
        given = []
        for call in calls:
            answer = model.answer(call)
            given += [len(answer)] + answer
        return given

    def same(self, calls):
        self.assertEqual(self.expected(calls), answers(sum(calls, [])), calls)

    def test_lines_of_calls(self):
        for seed in range(400):
            maker = Maker(seed)
            self.same([call for call in maker.line()][:50])

    def test_spoilt_texts(self):
        taken = 0
        for seed in range(400):
            maker = Maker(-1 - seed)
            page = maker.page()
            rules = maker.rules()
            calls = [page_text(maker.spoilt(page)) for turn in range(12)] + [rules_text(maker.spoilt(rules)) for turn in range(6)]
            self.same(calls)
            taken += sum(1 for call in calls if read_page(bytes(call[2:]).decode("latin-1")))
        self.assertGreater(taken, 100)


if __name__ == "__main__":
    unittest.main()
