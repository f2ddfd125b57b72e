"""Moves in the words of a presentation, and the moves that undo them."""

from cayleywalk.errors import BadMove
from cayleywalk.letters import inverse_letter, is_word
from cayleywalk.presentations import LONGEST_WORD, check_words, signed_relator


def moved(presentation, word, move):
    """Return the word after a move."""
    check_words(presentation, [word])
    behind = word_after(presentation, word, move)
    if behind is None:
        raise BadMove(0)
    return behind


def undoing(presentation, word, move):
    """Return the move that undoes a move that is allowed in the word."""
    moved(presentation, word, move)
    return opposite_move(word, move)


def opposite_move(word, move):
    """Return the move that undoes an allowed move, without looking whether it is allowed."""
    kind, at = move[0], move[1]
    if kind == "put":
        return ("cut", at)
    if kind == "cut":
        return ("put", at, word[at])
    if kind == "add":
        return ("take", at, move[2], move[3])
    return ("add", at, move[2], move[3])


def word_after(presentation, word, move):
    """Return the word after a move, or None if the move is not allowed in the word."""
    kind, at = move[0], move[1]
    if kind == "put":
        return _with(word, at, _letter_pair(presentation, move[2]))
    if kind == "cut":
        return _without(word, at, _pair_at(word, at))
    if kind == "add":
        return _with(word, at, signed_relator(presentation, move[2], move[3]))
    if kind == "take":
        return _without(word, at, signed_relator(presentation, move[2], move[3]))
    return None


def _letter_pair(presentation, letter):
    """Return the letter and its inverse, or None if it is not a letter of the presentation."""
    if len(letter) != 1 or not is_word(presentation[0], letter):
        return None
    return letter + inverse_letter(letter)


def _pair_at(word, at):
    """Return the two inverse letters that stand at a place, or None if none do."""
    if at < 0 or at + 1 >= len(word) or word[at + 1] != inverse_letter(word[at]):
        return None
    return word[at:at + 2]


def _with(word, at, text):
    """Return the word with a text put in at a place, or None if that is not allowed."""
    if text is None or at < 0 or at > len(word) or len(word) + len(text) > LONGEST_WORD:
        return None
    return word[:at] + text + word[at:]


def _without(word, at, text):
    """Return the word without a text that must stand at a place, or None if it does not."""
    if text is None or at < 0 or word[at:at + len(text)] != text:
        return None
    return word[:at] + word[at + len(text):]


def shorters(presentation, word):
    """Return the list of the moves `cut` and `take` that are allowed in a word, in their order."""
    check_words(presentation, [word])
    found = []
    for at in range(len(word)):
        for move in _possible_shorters(presentation, at):
            if word_after(presentation, word, move) is not None:
                found.append(move)
    return found


def _possible_shorters(presentation, at):
    """Return the moves `cut` and `take` at a place, allowed or not, in their order."""
    many = len(presentation[1])
    return [("cut", at)] + [("take", at, k, sign) for k in range(many) for sign in (1, -1)]
