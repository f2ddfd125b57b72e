"""Derivations: lists of moves that lead from one word to another one."""

from cayleywalk.errors import BadMove
from cayleywalk.letters import inverse_letter
from cayleywalk.moves import opposite_move, word_after
from cayleywalk.presentations import check_words


def walked(presentation, word, moves):
    """Return the word to which a list of moves leads."""
    check_words(presentation, [word])
    return trail(presentation, word, moves)[-1]


def is_derivation(presentation, start, end, moves):
    """Return True if the moves are allowed and lead from the first word to the second one."""
    check_words(presentation, [start, end])
    try:
        return trail(presentation, start, moves)[-1] == end
    except BadMove:
        return False


def trail(presentation, word, moves):
    """Return the list of the words before, between and behind the moves."""
    words = [word]
    for at, move in enumerate(moves):
        behind = word_after(presentation, words[-1], move)
        if behind is None:
            raise BadMove(at)
        words.append(behind)
    return words


def undone(presentation, word, moves):
    """Return the derivation in the opposite direction."""
    check_words(presentation, [word])
    return _undone_moves(presentation, word, moves)


def _undone_moves(presentation, word, moves):
    words = trail(presentation, word, moves)
    found = [opposite_move(words[at], move) for at, move in enumerate(moves)]
    return found[::-1]


def inverted(presentation, word, moves):
    """Return the derivation from the inverse of the word that has the inverse words."""
    check_words(presentation, [word])
    words = trail(presentation, word, moves)
    return [_inverted_move(presentation, len(words[at]), move) for at, move in enumerate(moves)]


def _inverted_move(presentation, size, move):
    """Return the move in an inverse word that belongs to a move in a word of this size."""
    kind, at = move[0], move[1]
    if kind == "put":
        return ("put", size - at, move[2])
    if kind == "cut":
        return ("cut", size - at - 2)
    if kind == "add":
        return ("add", size - at, move[2], -move[3])
    return ("take", size - at - len(presentation[1][move[2]]), move[2], -move[3])


def shifted(moves, by):
    """Return the moves with their places increased by an integer."""
    return [(move[0], move[1] + by) + move[2:] for move in moves]


def cuts(word):
    """Return the list of the cuts of a word, which may have any length."""
    found = []
    kept = []
    for letter in word:
        # The kept letters are reduced, so the first pair is the last of them
        # and the letter that comes next.
        opposite = inverse_letter(letter)
        if kept and kept[-1] == opposite:
            kept.pop()
            found.append(("cut", len(kept)))
        else:
            kept.append(letter)
    return found


def free_derivation(presentation, start, end):
    """Return a derivation by cuts and puts alone, or None if the reduced forms differ."""
    check_words(presentation, [start, end])
    there = cuts(start)
    back = cuts(end)
    if trail(presentation, start, there)[-1] != trail(presentation, end, back)[-1]:
        return None
    return there + _undone_moves(presentation, end, back)
