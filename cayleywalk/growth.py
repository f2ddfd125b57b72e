"""The growth of machines: how many words they accept, circles, the numbers of words."""

from cayleywalk.automata import accepts, check_machine, states_before, useful_states
from cayleywalk.errors import BadNumber, NoAnswer, NotWord
from cayleywalk.letters import MOST_LETTERS
from cayleywalk.tables import NOWHERE, numbered

LONGEST_COUNTED = 100
GREATEST_INDEX = 10000000
MOST_LISTED = 2000


def _useful_part(machine):
    """Return the pair of the marks and the rows of the useful states; the start stays 0."""
    check_machine(machine)
    letters, accepting, table = machine
    order = useful_states(accepting, table)
    if len(order) == 0:
        # A start that leads nowhere accepts as little as no start.
        return ([False], ((NOWHERE,) * len(letters),))
    return ([accepting[state] for state in order], numbered(table, order))


def _layers(marks, rows, length):
    """Return for each length up to the given one how many words of it each state accepts."""
    layers = [[1 if mark else 0 for mark in marks]]
    for _ in range(length):
        shorter = layers[-1]
        layers.append([sum([shorter[there] for there in row if there != NOWHERE]) for row in rows])
    return layers


def counts(machine, n):
    """Return the list of the numbers of accepted words of 0 to n letters."""
    marks, rows = _useful_part(machine)
    if n < 0 or n > LONGEST_COUNTED:
        raise BadNumber("words are counted up to a length from 0 to 100")
    return [layer[0] for layer in _layers(marks, rows, n)]


def _finite_totals(marks, rows):
    """Return how many words each state accepts, without the states that accept infinitely many."""
    before = states_before(rows)
    # A state is finished when all states behind it are. One before a circle never is.
    open_ways = [len(row) - row.count(NOWHERE) for row in rows]
    totals = {}
    waiting = [state for state, ways in enumerate(open_ways) if ways == 0]
    while waiting:
        state = waiting.pop()
        behind = [totals[there] for there in rows[state] if there != NOWHERE]
        totals[state] = sum(behind) + (1 if marks[state] else 0)
        for source in before[state]:
            open_ways[source] -= 1
            if open_ways[source] == 0:
                waiting.append(source)
    return totals


def total(machine):
    """Return the number of all accepted words, or None if there are infinitely many."""
    marks, rows = _useful_part(machine)
    return _finite_totals(marks, rows).get(0)


def circle(machine):
    """Return a circle, a tuple of three words, or None."""
    marks, rows = _useful_part(machine)
    finite = _finite_totals(marks, rows)
    if len(finite) == len(rows):
        return None
    letters = machine[0]
    here = 0
    text = ""
    places = {}
    # From a state that is not finite some letter leads to another such state,
    # so this way comes back to one of its states.
    while here not in places:
        places[here] = len(text)
        x = _letter_to_endless(rows[here], finite)
        text += letters[x]
        here = rows[here][x]
    return (text[:places[here]], text[places[here]:], _way_out(letters, marks, rows, here))


def _letter_to_endless(row, finite):
    """Return the index of the first letter that leads to a state that accepts infinitely many words."""
    ways = [x for x, there in enumerate(row) if there != NOWHERE and there not in finite]
    return ways[0]


def _way_out(letters, marks, rows, start):
    """Return a shortest word that leads from a useful state to an accepting one."""
    ways = {start: ""}
    order = [start]
    at = 0
    while not marks[order[at]]:
        here = order[at]
        row = rows[here]
        for x, there in enumerate(row):
            if there != NOWHERE and there not in ways:
                ways[there] = ways[here] + letters[x]
                order.append(there)
        at += 1
    return ways[order[at]]


def word_at(machine, index):
    """Return the accepted word with this number."""
    marks, rows = _useful_part(machine)
    if index < 0 or index > GREATEST_INDEX:
        raise BadNumber("a number of a word is from 0 to 10000000")
    layers = _layers(marks, rows, MOST_LETTERS)
    for length, layer in enumerate(layers):
        if index < layer[0]:
            return _word_of_length(machine[0], rows, layers[:length], index)
        index -= layer[0]
    raise NoAnswer("there are not so many words of at most 60 letters")


def _word_of_length(letters, rows, layers, index):
    """Return the word with this number among those with as many letters as there are layers."""
    here = 0
    text = ""
    for layer in layers[::-1]:
        x = 0
        while index >= _accepted_behind(layer, rows[here][x]):
            index -= _accepted_behind(layer, rows[here][x])
            x += 1
        text += letters[x]
        here = rows[here][x]
    return text


def _accepted_behind(layer, there):
    """Return how many words are accepted from where an entry leads."""
    if there == NOWHERE:
        return 0
    return layer[there]


def index_of(machine, word):
    """Return the number of an accepted word."""
    marks, rows = _useful_part(machine)
    letters = machine[0]
    if len(word) > MOST_LETTERS or not all([letter in letters for letter in word]):
        raise NotWord("not a word of at most 60 letters over the letters of the machine")
    if not accepts(machine, word):
        raise NoAnswer("the word is not accepted")
    layers = _layers(marks, rows, len(word))
    here = 0
    index = 0
    for at, letter in enumerate(word):
        behind = layers[len(word) - at - 1]
        x = letters.index(letter)
        # These words are shorter, or the same up to here and then less.
        index += layers[at][0] + sum([_accepted_behind(behind, there) for there in rows[here][:x]])
        here = rows[here][x]
    return index


def first_words(machine, count):
    """Return the list of the first accepted words in shortlex, at most so many."""
    marks, rows = _useful_part(machine)
    if count < 0 or count > MOST_LISTED:
        raise BadNumber("from 0 to 2000 words are listed")
    layers = _layers(marks, rows, MOST_LETTERS)
    found = []
    for length in range(MOST_LETTERS + 1):
        found.extend(_words_of_length(machine[0], rows, layers[:length + 1], count - len(found)))
    if len(found) < count and _finite_totals(marks, rows).get(0) != len(found):
        raise NoAnswer("one of these words has more than 60 letters")
    return found


def _words_of_length(letters, rows, layers, most):
    """Return the first accepted words of a length, for the layers of the lengths up to it."""
    if layers[-1][0] == 0:
        return []
    ways = [("", 0)]
    for layer in layers[:-1][::-1]:
        # Each way leads to an accepted word, so the first ones are enough.
        ways = [
            (text + letters[x], there)
            for text, here in ways[:most]
            for x, there in enumerate(rows[here])
            if _accepted_behind(layer, there) > 0
        ]
    return [text for text, _ in ways[:most]]
