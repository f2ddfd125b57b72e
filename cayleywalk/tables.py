"""Tables of cosets: where words lead, standard numbers, maps between tables, circle words."""

from cayleywalk.errors import BadNumber, NotTable, NotWord
from cayleywalk.letters import LETTERS, MOST_GENERATORS, is_word, rank_of
from cayleywalk.presentations import LONGEST_WORD, check_words
from cayleywalk.words import cancelled, flipped

NOWHERE = -1


def opposite(x):
    """Return the index of the inverse of the letter with an index."""
    return x ^ 1


def is_table(table, g):
    """Return True if the rows are a table for g generators, from 1 to 3, with any number of cosets from 1 on."""
    if g < 1 or g > MOST_GENERATORS:
        return False
    if len(table) == 0 or not all([len(row) == 2 * g for row in table]):
        return False
    return all([_leads_back(table, p, x) for p in range(len(table)) for x in range(2 * g)])


def _leads_back(table, p, x):
    """Return True if an entry is -1, or a coset whose entry for the inverse letter leads back."""
    there = table[p][x]
    if there == NOWHERE:
        return True
    return 0 <= there < len(table) and table[there][opposite(x)] == p


def check_table(table, generators):
    """Raise NotTable unless the rows are a table for this number of generators."""
    if not is_table(table, generators):
        raise NotTable("not a table for this number of generators")


def _generators_of(table):
    """Return the number of generators of a table, or raise NotTable if it is not one."""
    if len(table) == 0:
        raise NotTable("a table has at least one row")
    g = len(table[0]) // 2
    if not is_table(table, g):
        raise NotTable("not a table for 1, 2 or 3 generators")
    return g


def holes(table):
    """Return how many entries of the rows are -1."""
    return sum([row.count(NOWHERE) for row in table])


def is_whole(table):
    """Return True if no entry is -1."""
    _generators_of(table)
    return holes(table) == 0


def is_joined(table):
    """Return True if each coset is reached from the coset 0 by some word."""
    _generators_of(table)
    return len(order_found(table, 0)) == len(table)


def order_found(rows, start):
    """Return the list of what is reached from a start, in the order in which it is found."""
    order = [start]
    seen = {start: True}
    at = 0
    while at < len(order):
        row = rows[order[at]]
        for there in row:
            if there != NOWHERE and there not in seen:
                seen[there] = True
                order.append(there)
        at += 1
    return order


def numbered(rows, order):
    """Return the rows that an order lists, with the numbers that it gives; others are left out."""
    numbers = {old: new for new, old in enumerate(order)}
    return tuple([tuple([numbers.get(there, NOWHERE) for there in rows[old]]) for old in order])


def end_of(rows, start, word):
    """Return where a word over the letters of the rows leads, or -1."""
    here = start
    for letter in word:
        here = rows[here][rank_of(letter)]
        if here == NOWHERE:
            return NOWHERE
    return here


def led(table, start, word):
    """Return the coset to which a word leads from a coset, or -1."""
    g = _generators_of(table)
    if start < 0 or start >= len(table):
        raise BadNumber("there is no such coset")
    if not is_word(g, word) or len(word) > LONGEST_WORD:
        raise NotWord("not a word over the letters of the table with at most 200 letters")
    return end_of(table, start, word)


def _check_joined(table):
    if not is_joined(table):
        raise BadNumber("the table is not joined")


def standard(table):
    """Return the table in the standard numbering."""
    _check_joined(table)
    return numbered(table, order_found(table, 0))


def covering(table, other):
    """Return the list of the images of the cosets in another table, or None."""
    g = _generators_of(table)
    if g != _generators_of(other):
        raise BadNumber("the tables are for different numbers of generators")
    _check_joined(table)
    if holes(other) > 0:
        raise BadNumber("the table that is covered is not whole")
    images = {0: 0}
    for p in order_found(table, 0):
        # Every coset but 0 is found by an entry of one before it.
        row, there = table[p], other[images[p]]
        for x, q in enumerate(row):
            if q != NOWHERE and images.setdefault(q, there[x]) != there[x]:
                return None
    return [images[p] for p in range(len(table))]


def first_words(rows):
    """Return the first words in shortlex that lead from 0 to what is reached, in a dict."""
    words = {0: ""}
    for here in order_found(rows, 0):
        row = rows[here]
        for x, there in enumerate(row):
            if there != NOWHERE and there not in words:
                words[there] = words[here] + LETTERS[x]
    return words


def representatives(table):
    """Return the list of the representatives of the cosets."""
    _check_joined(table)
    words = first_words(table)
    return [words[p] for p in range(len(table))]


def circles(rows):
    """Return the reduced words by way of each row and small letter that leads on, without empty ones."""
    words = first_words(rows)
    found = []
    for here, row in enumerate(rows):
        for x in range(0, len(row), 2):
            if row[x] != NOWHERE:
                text = cancelled(words[here] + LETTERS[x] + flipped(words[row[x]]))
                if text != "":
                    found.append(text)
    return found


def circle_words(table):
    """Return the list of the circle words of a standard whole table."""
    if standard(table) != table or holes(table) > 0:
        raise BadNumber("the table is not whole, or not standard")
    return circles(table)


def fits(presentation, words, table):
    """Return True if the table fits the presentation and the subgroup words."""
    check_words(presentation, words)
    check_table(table, presentation[0])
    if holes(table) > 0 or not is_joined(table):
        return False
    for text in presentation[1]:
        if not all([end_of(table, p, text) == p for p in range(len(table))]):
            return False
    return all([end_of(table, 0, word) == 0 for word in words])
