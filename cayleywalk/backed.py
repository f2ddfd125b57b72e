"""Chains of rules that are backed by moves, and walks in them."""

from cayleywalk.derive import shifted
from cayleywalk.errors import BadMove, NotSound, TooLarge
from cayleywalk.letters import is_word
from cayleywalk.moves import opposite_move, word_after
from cayleywalk.presentations import LONGEST_WORD, check_presentation, check_words
from cayleywalk.rules import is_rule

MOST_ENTRIES = 120
MOST_UNFOLDED = 4000


def moved_in(presentation, chain, word, move):
    """Return the word after a move, which may be a `use` of any rule of the chain."""
    check_words(presentation, [word])
    behind = _word_behind(presentation, chain, word, move)
    if behind is None:
        raise BadMove(0)
    return behind


def _word_behind(presentation, chain, word, move):
    """Return the word after a move, or None if the move is not allowed in the word."""
    if move[0] != "use":
        return word_after(presentation, word, move)
    _, at, j, sign = move
    if j < 0 or j >= len(chain) or sign not in (1, -1) or at < 0 or at > len(word):
        return None
    old, new = chain[j][0], chain[j][1]
    if not (is_word(presentation[0], old) and is_word(presentation[0], new)):
        return None
    if sign == -1:
        old, new = new, old
    behind = word[:at] + new + word[at + len(old):]
    if word[at:at + len(old)] != old or len(behind) > LONGEST_WORD:
        return None
    return behind


def walked_in(presentation, chain, word, moves):
    """Return the word to which a list of moves leads."""
    check_words(presentation, [word])
    return _trail(presentation, chain, word, moves)[-1]


def _trail(presentation, chain, word, moves):
    """Return the list of the words before, between and behind the moves."""
    words = [word]
    for at, move in enumerate(moves):
        behind = _word_behind(presentation, chain, words[-1], move)
        if behind is None:
            raise BadMove(at)
        words.append(behind)
    return words


def is_walk(presentation, chain, start, end, moves):
    """Return True if the moves are a walk from the first word to the second one."""
    check_words(presentation, [start, end])
    return _leads(presentation, chain, start, end, moves)


def _leads(presentation, chain, start, end, moves):
    try:
        return _trail(presentation, chain, start, moves)[-1] == end
    except BadMove:
        return False


def first_fault(presentation, chain):
    """Return the index of the first entry that makes the chain unsound, or None."""
    check_presentation(presentation)
    for k, (left, right, moves) in enumerate(chain):
        if k == MOST_ENTRIES or not is_rule(presentation[0], left, right):
            return k
        if not _leads(presentation, chain[:k], left, right, moves):
            return k
    return None


def opposite_walk(presentation, chain, word, moves):
    """Return the walk that undoes a walk from a word."""
    trail = _trail(presentation, chain, word, moves)
    found = [_opposite(trail[at], move) for at, move in enumerate(moves)]
    return found[::-1]


def _opposite(word, move):
    """Return the move that undoes a move that is allowed in the word."""
    if move[0] == "use":
        return ("use", move[1], move[2], -move[3])
    return opposite_move(word, move)


def unfolded(presentation, chain, word, moves):
    """Return the derivation that a walk becomes without the moves `use`."""
    check_words(presentation, [word])
    if first_fault(presentation, chain) is not None:
        raise NotSound("the chain is not sound")
    _trail(presentation, chain, word, moves)
    if _sizes_of(chain + (("", "", moves),))[-1] > MOST_UNFOLDED:
        raise TooLarge("the derivation has more than 4000 moves")
    return _derivation(presentation, chain, word, moves)


def _sizes_of(chain):
    """Return for each entry how many moves its walk becomes without the moves `use`."""
    sizes = []
    for _, _, moves in chain:
        sizes.append(sum([sizes[move[2]] if move[0] == "use" else 1 for move in moves]))
    return sizes


def _derivation(presentation, chain, word, moves):
    walks = {}
    found = []
    waiting = list(moves)[::-1]
    while waiting:
        move = waiting.pop()
        if move[0] == "use":
            _, at, j, sign = move
            if (j, sign) not in walks:
                walks[(j, sign)] = _walk_of(presentation, chain, j, sign)
            waiting.extend(shifted(walks[(j, sign)], at)[::-1])
            continue
        word = word_after(presentation, word, move)
        if word is None:
            raise TooLarge("a word in the derivation has more than 200 letters")
        found.append(move)
    return found


def _walk_of(presentation, chain, j, sign):
    """Return the walk from the left side of a rule to the right side, or back."""
    left, _, moves = chain[j]
    if sign == 1:
        return list(moves)
    return opposite_walk(presentation, chain, left, moves)
