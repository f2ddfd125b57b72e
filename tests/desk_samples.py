"""A plain desk: the answers that the table of [281] makes due, and sessions of random lines."""

import random

from cayleywalk.cosets import index_of, is_member
from cayleywalk.decide import decide
from cayleywalk.errors import CayleyError
from cayleywalk.folding import folded, rank_of_graph
from cayleywalk.members import contains
from cayleywalk.presentations import is_presentation
from cayleywalk.search import count_images, first_images
from cayleywalk.weights import invariants, sums_of, weights_apart
from cayleywalk.words import commute, core_of, inverse, power, product, reduced, root_of

PERCENT = chr(37)

# The kinds of the words behind a command, and of those that may follow any number of times.
TABLE = {
    "group": ("NX", "T"), "word": ("NT", ""), "drop": ("?", ""), "show": ("?", ""), "inverse": ("NW", ""),
    "reduce": ("NW", ""), "product": ("NWW", ""), "power": ("NWX", ""), "root": ("NW", ""), "core": ("W", ""),
    "commute": ("WW", ""), "sums": ("GW", ""), "invariants": ("G", ""), "weights": ("GWW", ""), "count": ("GX", ""),
    "images": ("GWWX", ""), "decide": ("GWW", ""), "index": ("G", "W"), "member": ("GW", "W"), "rank": ("X", "W"),
    "inside": ("XW", "W"),
}

SHOWN = {"equal": "same", "weights": "other", "images": "other", "system": "other", "open": "open"}


def plain_text(word):
    return word or "-"


def plain_yes(flag):
    return "yes" if flag else "no"


def word_of_text(text):
    if text == "-":
        return ""
    if text == "" or len(text) > 60 or any(letter not in list("aAbBcC") for letter in text):
        raise CayleyError("no text")
    return text


def form_is_bad(line):
    """Return whether a line is answered `bad`."""
    words = line.split(" ")
    if "" in words or any(not 32 <= ord(sign) <= 126 or sign == PERCENT for sign in line):
        return True
    if words[0] not in TABLE:
        return True
    fixed, more = TABLE[words[0]]
    many = len(words) - 1
    if many < len(fixed) or (many > len(fixed) and not more):
        return True
    for kind, word in zip(fixed + more * many, words[1:]):
        if kind in "NGW?" and not (1 <= len(word) <= 12 and all("a" <= sign <= "z" for sign in word)):
            return True
        if kind == "X" and word not in [str(number) for number in range(100)]:
            return True
    return False


class PlainDesk:
    """Things by names, and the answers one command after the other."""

    def __init__(self):
        self.things = {}

    def answer(self, line):
        if form_is_bad(line):
            return "bad"
        command, *words = line.split(" ")
        fixed, more = TABLE[command]
        values = []
        for kind, word in zip(fixed + more * len(words), words):
            if kind in "GW?" and word not in self.things:
                return "unknown " + word
            if (kind == "G" and isinstance(self.things[word], str)) or (kind == "W" and not isinstance(self.things[word], str)):
                return "kind " + word
            if kind == "X":
                values.append(int(word))
            else:
                values.append(self.things[word] if kind in "GW?" else word)
        try:
            return self.done(command, words, values)
        except CayleyError:
            return "refused"

    def put(self, name, word, answer):
        if len(word) > 60:
            return "refused"
        self.things[name] = word
        return answer

    def done(self, command, words, values):
        if command == "group":
            presentation = (values[1], tuple(word_of_text(text) for text in values[2:]))
            if not is_presentation(presentation):
                return "refused"
            self.things[words[0]] = presentation
            return "ok"
        if command == "word":
            return self.put(words[0], word_of_text(words[1]), "ok")
        if command == "drop":
            del self.things[words[0]]
            return "ok"
        if command == "show":
            if isinstance(values[0], str):
                return plain_text(values[0])
            return " ".join([str(values[0][0])] + list(values[0][1]))
        if command in ("inverse", "reduce", "product", "power"):
            function = {"inverse": inverse, "reduce": reduced, "product": product, "power": power}[command]
            word = function(*values[1:])
            return self.put(words[0], word, plain_text(word))
        if command == "root":
            root, exponent = root_of(values[1])
            return self.put(words[0], root, str(exponent))
        return self.told(command, values)

    def told(self, command, values):
        if command == "core":
            return " ".join(plain_text(part) for part in core_of(*values))
        if command == "commute":
            return plain_yes(commute(*values))
        if command == "sums":
            return " ".join(str(number) for number in sums_of(values[0][0], values[1]))
        if command == "invariants":
            return " ".join(str(number) for number in invariants(*values)) or "empty"
        if command == "weights":
            return plain_yes(weights_apart(*values) is not None)
        if command == "count":
            return str(count_images(*values))
        if command == "images":
            images = first_images(*values[:3], most=values[3])
            return " ".join(",".join(str(p) for p in points) for points in images) if images else "no"
        if command == "decide":
            kind = decide(*values)[0]
            return SHOWN[kind] + " " + kind
        if command == "index":
            index = index_of(values[0], values[1:])
            return "open" if index is None else str(index)
        if command == "member":
            member = is_member(values[0], values[2:], values[1])
            return "open" if member is None else plain_yes(member)
        if command == "rank":
            return str(rank_of_graph(values[0], folded(values[0], values[1:])))
        return plain_yes(contains(values[0], folded(values[0], values[2:]), values[1]))


def random_line(chance, names):
    """Return a line that is mostly right."""
    command = chance.choice(sorted(TABLE))
    fixed, more = TABLE[command]
    kinds = fixed + more * chance.choice([0, 0, 1, 2, 3, 9])
    words = [command]
    for kind in kinds:
        if kind == "X":
            words.append(str(chance.choice([1, 2, 2, 2, 3, 3, 4, 0, 7, 20, 21, 99])))
        elif kind == "T":
            size = chance.choice([0, 1, 2, 3, 4, 6, 20, 21, 60, 61])
            words.append("".join(chance.choices("aAbB" if chance.random() < 0.9 else "abcCx-", k=size)) or "-")
        else:
            words.append(chance.choice(names[kind if kind in names and chance.random() < 0.9 else "N"]))
    if chance.random() < 0.06:
        at = chance.randrange(len(words))
        words[at:at + chance.randint(0, 1)] = [chance.choice(["x", "", "7", "G", "abcdefghijklm", "03", PERCENT, "\u00e4", "100"])]
    return " ".join(words)


def some_sessions(seed, many, length):
    """Return lists of lines."""
    chance = random.Random(seed)
    names = {"G": ["g", "h", "k"], "W": ["u", "v", "w", "x"], "N": ["g", "h", "k", "u", "v", "w", "x", "none"]}
    start = ["group g 2 abAB", "group h 2 aa bb ababab", "group k 1 aaa", "word u ab", "word v ba", "word w -", "word x aab"]
    return [start + [random_line(chance, names) for _ in range(length)] for _ in range(many)]
