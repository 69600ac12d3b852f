"""Makes texts and lines of calls by chance, from a seed."""

import random
import re

from tests.calling import (ESCAPE, FIRST_RULES, FOCUS, HERE, OUTLINE, SIZE, back, go, goback, grid, heads, move, next_of, page_text,
                           press, prev_of, rules_text, sentence, tab)
from tests.model import HOLDS, KINDS, NEEDS


class Maker:
    """Makes texts and lines of calls; some of the texts are spoilt."""

    def __init__(self, seed):
        self.chance = random.Random(seed)

    def some(self, part):
        return self.chance.random() < part

    def saying(self):
        return '"' + " ".join(self.chance.choice(["A", "b1", "Cd", "007", "eF g"]) for turn in range(self.chance.randint(1, 3))) + '"'

    def kind(self, outer, deep):
        if outer in HOLDS:
            return self.chance.choice(sorted(HOLDS[outer]))
        return self.chance.choice([kind for kind in KINDS if kind not in NEEDS and kind != "page"] + ["link", "check", "modal", "h1"])

    def page(self):
        ids = [chr(97 + place) + self.chance.choice(["", "x", "show"]) for place in range(self.chance.randint(1, 16))]
        lines = []
        path = []
        for place, name in enumerate(ids):
            deep = self.chance.randint(1, min(5, len(path))) if place else 0
            path = path[:deep]
            kind = self.kind(path[-1], deep) if place else "page"
            path.append(kind)
            lines.append("  " * deep + " ".join([kind, name] + self.attributes(kind, ids, place)) + "\n")
        return "".join(lines)

    def attributes(self, kind, ids, place):
        words = [self.saying()] if self.some(0.5) else []
        words += ["label " + self.saying()] if self.some(0.2) else []
        words += ["by " + " ".join(self.chance.sample(ids, min(len(ids), self.chance.randint(1, 3))))] if self.some(0.3) else []
        words += ["hint " + self.chance.choice(ids)] if self.some(0.2) else []
        words += ["hidden"] if place and self.some(0.6 if kind == "modal" else 0.15) else []
        words += ["off"] if self.some(0.1) else []
        words += ["on"] if kind == "check" and self.some(0.5) else []
        words += ["order " + self.chance.choice("1239")] if self.some(0.3) else []
        if kind in ("link", "button", "check") and self.some(0.7):
            words.append("press " + " ".join(self.chance.choice(["show:", "hide:", "flip:"]) + self.chance.choice(ids)
                                             for turn in range(self.chance.randint(1, 3))))
        return words

    def rules(self):
        lines = []
        for line in FIRST_RULES:
            if self.some(0.4):
                sources = self.chance.sample(["by", "label", "text", "kids", "hint"], self.chance.randint(0, 5))
                line = line.split(" ")[0] + " role" + " focus" * self.some(0.4) + " whole" * self.some(0.2)
                line += " from " * bool(sources) + " ".join(sources)
            lines.append(line + "\n")
        return "".join(lines)

    def spoilt(self, text):
        for turn in range(self.chance.randint(1, 2)):
            at = self.chance.randrange(len(text) + 1)
            words = text.split(" ")
            left, right = self.chance.randrange(len(words)), self.chance.randrange(len(words))
            changed = list(words)
            changed[left], changed[right] = words[right], words[left]
            text = self.chance.choice([
                text[:at] + text[at + 1:], text[:at] + self.chance.choice(' "a:Z9\n?\xff') + text[at:], text[:at] + text[at + 1:] + "\n",
                " ".join(words[:left] + words[left + 1:]), " ".join(words[:left] + [words[right]] + words[left:]), " ".join(changed),
                text[:at] + self.chance.choice([" hidden", " on", " off", " by a", "  ", "\n  p zz"]) + text[at:]])
        return text

    def table_page(self):
        """A page with one or two tables of several rows."""
        ids = [chr(97 + place) for place in range(16)]
        kinds = ["page", "link"]
        while len(kinds) < 16:
            kinds += ["table"] * (kinds[-1] in ("link", "p") or self.some(0.05))
            kinds += ["row"] + [self.chance.choice(["th", "cell", "cell"]) for turn in range(self.chance.randint(0, 4))]
            kinds += ["p"] * (kinds[-1] in ("th", "cell") and self.some(0.2))
        lines = []
        for place, kind in enumerate(kinds[:16]):
            deep = {"page": 0, "link": 1, "table": 1, "row": 2, "th": 3, "cell": 3, "p": 4}[kind]
            lines.append("  " * deep + " ".join([kind, ids[place]] + self.attributes(kind, ids, place)) + "\n")
        return "".join(lines)

    def modal_page(self):
        """A page with modals, mostly visible, and much to press, mostly on them and on what's around them."""
        ids = [chr(97 + place) for place in range(self.chance.randint(6, 16))]
        lines = ["page a\n", "  part b\n"]
        outer = ["a", "b"]
        for place, name in enumerate(ids[2:]):
            kind = "modal" if place % 6 == 1 or self.some(0.05) else self.chance.choice(["link", "button", "check", "part"])
            deep = min(self.chance.choice([1, 2, 3, 4, 4, 4]), (len(lines[-1]) - len(lines[-1].lstrip())) // 2 + 1)
            words = [word for word in self.attributes(kind, ids, place) if word != "hidden" or self.some(0.5)]
            if words and words[-1].startswith("press") and self.some(0.7):
                words[-1] = "press " + self.chance.choice(["hide:", "flip:", "hide:" + outer[-1] + " show:"]) + self.chance.choice(outer)
            outer += [name] * (kind == "modal")
            lines.append("  " * deep + " ".join([kind, name] + words) + "\n")
        return "".join(lines)

    def line(self, text):
        calls = [page_text(text)]
        names = re.findall(r"(?m)^ *\w+ (\w+)", text) * 2 + ["top", "zz", ""]
        for turn in range(self.chance.randint(5, 40)):
            name = self.chance.choice(names)
            kind = self.chance.randrange(30)
            if kind == 0:
                calls.append(page_text(self.spoilt(text)))
            elif kind == 1:
                calls.append(rules_text(self.rules()))
            elif kind == 2:
                calls.append(rules_text(self.spoilt(self.rules())))
            elif kind < 9:
                calls.append(press(name))
            else:
                calls.append(self.asking(name))
        return calls

    def asking(self, name):
        of = self.chance.randint(-1, 7)
        return self.chance.choice([
            FOCUS, OUTLINE, SIZE, tab(name), back(name), next_of(of, name), prev_of(of, name), grid(name), heads(name), sentence(name),
            move(self.chance.randint(-1, 4), name), ESCAPE, HERE, go(of), go(0), go(0), goback(of), goback(0)])
