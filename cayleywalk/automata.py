"""Machines that accept words: least ones, and those of the words that avoid others."""

from cayleywalk.errors import NotMachine, TooLarge
from cayleywalk.letters import MOST_GENERATORS, check_word, letters_of, rank_of
from cayleywalk.rules import check_system
from cayleywalk.tables import NOWHERE, numbered, order_found

MOST_STATES = 2000
MOST_AVOIDED = 600


def is_machine(machine):
    """Return True if the tuple of a string, truth values and rows is a machine."""
    letters, accepting, table = machine
    if letters not in [letters_of(g) for g in range(1, MOST_GENERATORS + 1)]:
        return False
    if len(table) > MOST_STATES or len(accepting) != len(table):
        return False
    return all([_is_row(row, len(letters), len(table)) for row in table])


def _is_row(row, width, many):
    return len(row) == width and all([NOWHERE <= there < many for there in row])


def check_machine(machine):
    """Raise NotMachine unless the tuple is a machine."""
    if not is_machine(machine):
        raise NotMachine("not a machine")


def accepts(machine, word):
    """Return True if the machine accepts the string."""
    check_machine(machine)
    letters, accepting, table = machine
    if len(table) == 0:
        return False
    here = 0
    for letter in word:
        if letter not in letters:
            return False
        here = table[here][letters.index(letter)]
        if here == NOWHERE:
            return False
    return accepting[here]


def least(machine):
    """Return the least machine with the same letters that accepts the same words."""
    check_machine(machine)
    letters, accepting, table = machine
    useful = useful_states(accepting, table)
    if len(useful) == 0:
        return (letters, (), ())
    # A useful start comes first in the order, so it is the state 0 again.
    marks = [accepting[state] for state in useful]
    rows = numbered(table, useful)
    return _merged(letters, marks, rows, Refining(marks, rows).blocks)


def useful_states(accepting, table):
    """Return the useful states, in the order in which they are found from the start."""
    if len(table) == 0:
        return []
    order = order_found(table, 0)
    before = states_before(table)
    useful = {state: True for state in order if accepting[state]}
    waiting = list(useful)
    while waiting:
        sources = before[waiting.pop()]
        for state in sources:
            if state not in useful:
                useful[state] = True
                waiting.append(state)
    return [state for state in order if state in useful]


def states_before(table):
    """Return for each state the list of the states from which letters lead to it."""
    before = [[] for _ in table]
    for state, row in enumerate(table):
        for there in row:
            if there != NOWHERE:
                before[there].append(state)
    return before


def _merged(letters, marks, rows, blocks):
    """Return the machine whose states are the blocks of states, numbered as they are found."""
    firsts = {}
    for state in range(len(rows)):
        firsts.setdefault(blocks[state], state)
    merged = {}
    for block, state in firsts.items():
        merged[block] = [blocks[there] if there != NOWHERE else NOWHERE for there in rows[state]]
    order = order_found(merged, blocks[0])
    return (letters, tuple([marks[firsts[block]] for block in order]), numbered(merged, order))


class Refining:
    """Blocks of states, split until all states in a block are alike."""

    def __init__(self, marks, rows):
        # One more state stands for leading nowhere.
        sink = len(rows)
        width = len(rows[0])
        self.before = [[[] for _ in range(sink + 1)] for _ in range(width)]
        for state, row in enumerate(list(rows) + [[sink] * width]):
            for x, there in enumerate(row):
                self.before[x][there if there != NOWHERE else sink].append(state)
        self.blocks = [1 if mark else 0 for mark in marks] + [0]
        self.members = [[], []]
        for state, block in enumerate(self.blocks):
            self.members[block].append(state)
        self.waiting = [0, 1]
        while self.waiting:
            self._split_all(list(self.members[self.waiting.pop()]))

    def _split_all(self, states):
        """Split the blocks of which some states lead to the given ones by a letter, and others do not."""
        for sources in self.before:
            touched = {}
            for state in states:
                for source in sources[state]:
                    touched.setdefault(self.blocks[source], []).append(source)
            for block, found in touched.items():
                if len(found) < len(self.members[block]):
                    self._split(block, found)

    def _split(self, block, found):
        chosen = {state: True for state in found}
        rest = [state for state in self.members[block] if state not in chosen]
        # The greater part keeps the number, so that only the lesser one waits.
        new, kept = found, rest
        if len(rest) < len(found):
            new, kept = rest, found
        self.members[block] = kept
        for state in new:
            self.blocks[state] = len(self.members)
        self.waiting.append(len(self.members))
        self.members.append(new)


def avoiding(g, words):
    """Return the least machine of the words over g generators that avoid a list of words."""
    letters_of(g)
    for word in words:
        check_word(g, word)
    return _machine_avoiding(g, words)


def normal_machine(g, system):
    """Return the normal machine of a system of rules."""
    check_system(g, system)
    return _machine_avoiding(g, [left for left, _ in system])


def _machine_avoiding(g, words):
    if sum([len(word) for word in words]) > MOST_AVOIDED:
        raise TooLarge("the words have more than 600 letters together")
    rows, ends = _beginnings(g, words)
    _complete(rows, ends)
    table = [tuple([NOWHERE if ends[there] else there for there in row]) for row in rows]
    return least((letters_of(g), tuple([not end for end in ends]), tuple(table)))


def _beginnings(g, words):
    """Return the rows of the beginnings of words, and whether they are words of the list."""
    rows = [[NOWHERE] * (2 * g)]
    ends = [False]
    for word in words:
        here = 0
        for letter in word:
            x = rank_of(letter)
            if rows[here][x] == NOWHERE:
                rows[here][x] = len(rows)
                rows.append([NOWHERE] * (2 * g))
                ends.append(False)
            here = rows[here][x]
        ends[here] = True
    return (rows, ends)


def _complete(rows, ends):
    """Make each letter lead to the longest beginning that stands at the end of what was read."""
    shorter = [0] * len(rows)
    order = [0]
    at = 0
    while at < len(order):
        here = order[at]
        back = shorter[here]
        ends[here] = ends[here] or ends[back]
        for x, there in enumerate(list(rows[here])):
            # From the start nothing shorter is left.
            behind = rows[back][x] if here != 0 else 0
            if there == NOWHERE:
                rows[here][x] = behind
            else:
                shorter[there] = behind
                order.append(there)
        at += 1
