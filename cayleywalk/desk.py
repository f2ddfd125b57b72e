"""The desk: lines that name groups and words, and their answers."""

from cayleywalk.cosets import index_of, is_member
from cayleywalk.decide import decide, shows
from cayleywalk.errors import CayleyError
from cayleywalk.folding import folded, rank_of_graph
from cayleywalk.lines import is_name, number_in, text_of, word_in, words_of
from cayleywalk.members import contains
from cayleywalk.presentations import check_presentation
from cayleywalk.search import count_images, first_images
from cayleywalk.weights import invariants, sums_of, weights_apart
from cayleywalk.words import commute, core_of, inverse, power, product, reduced, root_of

NAME = "N"
GROUP = "G"
WORD = "W"
THING = "A"
NUMBER = "X"
TEXT = "T"
MORE = "*"

# The kinds of the words behind a command. With a star at the end, the last kind
# stands there any number of times, or not at all.
FORMS = {
    "group": "NXT*", "word": "NT", "drop": "A", "show": "A", "inverse": "NW", "reduce": "NW", "product": "NWW",
    "power": "NWX", "root": "NW", "core": "W", "commute": "WW", "sums": "GW", "invariants": "G", "weights": "GWW",
    "count": "GX", "images": "GWWX", "decide": "GWW", "index": "GW*", "member": "GWW*", "rank": "XW*", "inside": "XWW*",
}


def _listed(parts):
    """Return the answer for a list of integers or texts."""
    if len(parts) == 0:
        return "empty"
    return " ".join([str(part) for part in parts])


def _yes_or_no(flag):
    return "yes" if flag else "no"


# Each operation returns the pair of the thing that is kept, or None, and the answer.

def _group(gens, *texts):
    presentation = (gens, tuple([word_in(text) for text in texts]))
    check_presentation(presentation)
    return (presentation, "ok")


def _word(text):
    return (word_in(text), "ok")


def _show(thing):
    if isinstance(thing, str):
        return (None, text_of(thing))
    gens, relators = thing
    return (None, _listed([gens] + [text_of(text) for text in relators]))


def _new_word(word):
    # A word with more than 60 letters has no text here, so it is refused.
    return (word, text_of(word))


def _inverse(word):
    return _new_word(inverse(word))


def _reduce(word):
    return _new_word(reduced(word))


def _product(one, other):
    return _new_word(product(one, other))


def _power(word, exponent):
    return _new_word(power(word, exponent))


def _root(word):
    root, exponent = root_of(word)
    return (root, str(exponent))


def _core(word):
    return (None, _listed([text_of(part) for part in core_of(word)]))


def _commute(one, other):
    return (None, _yes_or_no(commute(one, other)))


def _sums(group, word):
    return (None, _listed(sums_of(group[0], word)))


def _invariants(group):
    return (None, _listed(invariants(group)))


def _weights(group, one, other):
    return (None, _yes_or_no(weights_apart(group, one, other) is not None))


def _count(group, degree):
    return (None, str(count_images(group, degree)))


def _images(group, one, other, most):
    images = first_images(group, one, other, most=most)
    if images is None:
        return (None, "no")
    return (None, _listed([",".join([str(point) for point in points]) for points in images]))


def _decide(group, one, other):
    answer = decide(group, one, other)
    return (None, shows(answer) + " " + answer[0])


def _index(group, *words):
    index = index_of(group, list(words))
    return (None, "open" if index is None else str(index))


def _member(group, word, *words):
    member = is_member(group, list(words), word)
    return (None, "open" if member is None else _yes_or_no(member))


def _rank(gens, *words):
    return (None, str(rank_of_graph(gens, folded(gens, list(words)))))


def _inside(gens, word, *words):
    return (None, _yes_or_no(contains(gens, folded(gens, list(words)), word)))


OPERATIONS = {
    "group": _group, "word": _word, "show": _show, "inverse": _inverse, "reduce": _reduce, "product": _product,
    "power": _power, "root": _root, "core": _core, "commute": _commute, "sums": _sums, "invariants": _invariants,
    "weights": _weights, "count": _count, "images": _images, "decide": _decide, "index": _index, "member": _member,
    "rank": _rank, "inside": _inside,
}


def _kinds_of(command, many):
    """Return the kinds of so many words behind a command, or None if this number is wrong."""
    form = FORMS.get(command, None)
    if form is None:
        return None
    if form.endswith(MORE):
        least = form[:-2]
        form = least + form[-2] * (many - len(least))
    if len(form) != many:
        return None
    return form


def _has_form(kind, word):
    """Return True if a word of a line may stand for this kind, whatever it names."""
    if kind == NUMBER:
        return number_in(word) is not None
    return kind == TEXT or is_name(word)


class Desk:
    """Groups and words by their names."""

    def __init__(self):
        self._things = {}

    def names(self):
        """Return the sorted list of the names that have something."""
        return sorted(self._things)

    def thing(self, name):
        """Return the presentation or the word that has a name, or None."""
        return self._things.get(name)

    def copied(self):
        """Return another desk with the same things."""
        desk = Desk()
        desk._things = dict(self._things)
        return desk

    def answers(self, lines):
        """Return the list of the answers to several lines, in order."""
        return [self.answer(line) for line in lines]

    def answer(self, line):
        """Return the answer to a line, and change the desk as it says."""
        words = words_of(line)
        if words is None:
            return "bad"
        command, told = words[0], words[1:]
        kinds = _kinds_of(command, len(told))
        if kinds is None or not all([_has_form(kind, word) for kind, word in zip(kinds, told)]):
            return "bad"
        for kind, word in zip(kinds, told):
            fault = self._fault(kind, word)
            if fault is not None:
                return fault + " " + word
        if command == "drop":
            del self._things[told[0]]
            return "ok"
        return self._done(command, kinds, told)

    def _fault(self, kind, word):
        """Return what is wrong with what a word of a line names, or None."""
        if kind not in (THING, GROUP, WORD):
            return None
        if word not in self._things:
            return "unknown"
        if kind != THING and isinstance(self._things[word], str) != (kind == WORD):
            return "kind"
        return None

    def _done(self, command, kinds, told):
        """Return the answer of an operation, and keep the thing that it makes."""
        values = [self._value(kind, word) for kind, word in zip(kinds, told) if kind != NAME]
        operation = OPERATIONS[command]
        try:
            thing, answer = operation(*values)
        except CayleyError:
            return "refused"
        if thing is not None:
            self._things[told[0]] = thing
        return answer

    def _value(self, kind, word):
        """Return what a word of a line stands for."""
        if kind == NUMBER:
            return number_in(word)
        if kind == TEXT:
            return word
        return self._things[word]
