"""Maps between presentations that are backed by moves, and derivations carried along them."""

from cayleywalk.derive import inverted, is_derivation, shifted, trail, undone, walked
from cayleywalk.errors import BadMove, NotMap, TooLarge
from cayleywalk.letters import LETTERS, MOST_LETTERS, is_word
from cayleywalk.moves import word_after
from cayleywalk.presentations import LONGEST_WORD, check_presentation, check_words
from cayleywalk.words import flipped


def check_map(source, target, words):
    """Raise NotMap unless the words are the images of the generators of a presentation."""
    check_presentation(source)
    check_presentation(target)
    if not _is_map(source, target, words):
        raise NotMap("each generator has a word of at most 60 letters as its image")


def _is_map(source, target, words):
    if len(words) != source[0]:
        return False
    return all([is_word(target[0], word) and len(word) <= MOST_LETTERS for word in words])


def image_of_text(words, text):
    """Return the image of a word under a map; both may be of any length."""
    images = {}
    for k, word in enumerate(words):
        images[LETTERS[2 * k]] = word
        images[LETTERS[2 * k + 1]] = flipped(word)
    return "".join([images[letter] for letter in text])


def check_short(text):
    """Raise TooLarge if a word has more than 200 letters."""
    if len(text) > LONGEST_WORD:
        raise TooLarge("a word has more than 200 letters")


def image(source, target, words, word):
    """Return the image of a word."""
    check_map(source, target, words)
    check_words(source, [word])
    text = image_of_text(words, word)
    check_short(text)
    return text


def is_right(source, target, backed):
    """Return True if a backed map has derivations from the images of the relators to the empty word."""
    check_presentation(source)
    check_presentation(target)
    words, lists = backed
    if not _is_map(source, target, words) or len(lists) != len(source[1]):
        return False
    return all([_vanishes(target, image_of_text(words, text), moves) for text, moves in zip(source[1], lists)])


def _vanishes(target, text, moves):
    return len(text) <= LONGEST_WORD and is_derivation(target, text, "", moves)


def _check_right(source, target, backed):
    if not is_right(source, target, backed):
        raise NotMap("the backed map is not right")


def carried(source, target, backed, word, moves):
    """Return the derivation of the images that belongs to a derivation from a word."""
    _check_right(source, target, backed)
    walked(source, word, moves)
    return carried_moves(source, target, backed, word, moves)


def carried_moves(source, target, backed, word, moves):
    """Return what `carried` does, for a right backed map and a derivation."""
    start = image_of_text(backed[0], word)
    found = []
    for move in moves:
        at = len(image_of_text(backed[0], word[:move[1]]))
        found.extend(shifted(_moves_for(source, target, backed, word, move), at))
        word = word_after(source, word, move)
    check_short_ways(target, start, found)
    return found


def check_short_ways(presentation, word, moves):
    """Raise TooLarge if a word on the way has more than 200 letters; the moves are right otherwise."""
    check_short(word)
    try:
        trail(presentation, word, moves)
    except BadMove:
        raise TooLarge("a word in the derivation has more than 200 letters") from None


def _moves_for(source, target, backed, word, move):
    """Return the moves of the target for a move, as if the image began where the move is made."""
    words, lists = backed
    if move[0] == "put":
        return [("put", at, letter) for at, letter in enumerate(image_of_text(words, move[2]))]
    if move[0] == "cut":
        size = len(image_of_text(words, word[move[1]]))
        return [("cut", at) for at in range(size - 1, -1, -1)]
    _, _, k, sign = move
    text = image_of_text(words, source[1][k])
    moves = list(lists[k])
    if sign == -1:
        moves = inverted(target, text, moves)
        text = flipped(text)
    if move[0] == "add":
        return undone(target, text, moves)
    return moves


def joined(source, middle, target, one, other):
    """Return the backed map that leads by the first one of two backed maps and then by the second one."""
    for presentation in (source, middle, target):
        check_presentation(presentation)
    _check_right(source, middle, one)
    _check_right(middle, target, other)
    words = tuple([image(middle, target, other[0], word) for word in one[0]])
    lists = [
        carried_moves(middle, target, other, image_of_text(one[0], text), moves)
        for text, moves in zip(source[1], one[1])
    ]
    return (words, tuple(lists))
