"""Changes of presentations, with backed maps in both directions."""

from cayleywalk.derive import cuts, inverted, shifted, trail, undone
from cayleywalk.errors import BadMove, BadNumber, NotWord, TooLarge
from cayleywalk.letters import LETTERS, MOST_GENERATORS, inverse_letter, letters_of
from cayleywalk.maps import carried_moves, check_short, check_short_ways, image_of_text
from cayleywalk.moves import word_after
from cayleywalk.presentations import LONGEST_RELATOR, MOST_RELATORS, check_presentation, check_words
from cayleywalk.words import flipped


class Change:
    """A presentation before a change and the one behind it, with a right backed map each way."""

    def __init__(self, before, behind, there, back, *, returns, returns_behind):
        self.before = before
        self.behind = behind
        self.there = there
        self.back = back
        # The moves of letters that do not come back as themselves.
        self._returns = returns
        self._returns_behind = returns_behind

    def returning(self, letter):
        """Return the derivation from the letter's image there and back to the letter."""
        _check_letter(self.before, letter)
        return list(self._returns.get(letter, ()))

    def returning_behind(self, letter):
        """Return the derivation, behind the change, from the letter's image back and there to the letter."""
        _check_letter(self.behind, letter)
        return list(self._returns_behind.get(letter, ()))

    def pulled(self, start, end, moves):
        """Return the derivation between two words that belongs to one between their images."""
        check_words(self.before, [start, end])
        text = image_of_text(self.there[0], start)
        _check_derivation(self.behind, text, image_of_text(self.there[0], end), moves)
        check_short(text)
        out = self._round_trip(start)
        middle = carried_moves(self.behind, self.before, self.back, text, moves)
        return undone(self.before, out[0], out[1]) + middle + self._round_trip(end)[1]

    def _round_trip(self, word):
        """Return the pair of the image of the image of a word, and a derivation from it to the word."""
        text = image_of_text(self.back[0], image_of_text(self.there[0], word))
        moves = _returning_moves(self._returns, word)
        check_short_ways(self.before, text, moves)
        return (text, moves)


def _check_letter(presentation, letter):
    if len(letter) != 1 or letter not in letters_of(presentation[0]):
        raise NotWord("not a letter of the presentation")


def _check_derivation(presentation, start, end, moves):
    """Raise BadMove unless the moves lead from the first word, of any length, to the second one."""
    if trail(presentation, start, moves)[-1] != end:
        raise BadMove(len(moves))


def _returning_moves(returns, word):
    """Return the moves that take the images of the letters of a word to the letters, from the left."""
    found = []
    for at, letter in enumerate(word):
        found.extend(shifted(returns.get(letter, ()), at))
    return found


def _small_letters(gens):
    return tuple(letters_of(gens)[::2])


def _takes(numbers):
    """Return for each relator the list of the one move that takes it away."""
    return [[("take", 0, k, 1)] for k in numbers]


def with_relator(presentation, word, moves):
    """Return the change that adds a relator, with a derivation from it to the empty word."""
    check_words(presentation, [word])
    if len(word) < 1 or len(word) > LONGEST_RELATOR:
        raise NotWord("a relator has from 1 to 20 letters")
    gens, relators = presentation
    if len(relators) == MOST_RELATORS:
        raise BadNumber("there are 8 relators")
    _check_derivation(presentation, word, "", moves)
    numbers = list(range(len(relators)))
    letters = _small_letters(gens)
    there = (letters, tuple(_takes(numbers)))
    back = (letters, tuple(_takes(numbers) + [list(moves)]))
    return Change(presentation, (gens, relators + (word,)), there, back, returns={}, returns_behind={})


def _check_relator(presentation, k):
    if k < 0 or k >= len(presentation[1]):
        raise BadNumber("there is no such relator")


def without_relator(presentation, k, moves):
    """Return the change that removes a relator, with a derivation without it to the empty word."""
    check_presentation(presentation)
    _check_relator(presentation, k)
    gens, relators = presentation
    behind = (gens, relators[:k] + relators[k + 1:])
    _check_derivation(behind, relators[k], "", moves)
    letters = _small_letters(gens)
    lists = _takes(list(range(len(relators) - 1)))
    there = (letters, tuple(lists[:k] + [list(moves)] + lists[k:]))
    back = (letters, tuple(_takes([j for j in range(len(relators)) if j != k])))
    return Change(presentation, behind, there, back, returns={}, returns_behind={})


def with_generator(presentation, word):
    """Return the change that adds a generator that is equal to a word."""
    check_words(presentation, [word])
    if len(word) >= LONGEST_RELATOR:
        raise NotWord("the word for a generator has at most 19 letters")
    gens, relators = presentation
    many = len(relators)
    if gens == MOST_GENERATORS or many == MOST_RELATORS:
        raise BadNumber("there are three generators, or 8 relators")
    letter, capital = LETTERS[2 * gens], LETTERS[2 * gens + 1]
    behind = (gens + 1, relators + (word + capital,))
    letters = _small_letters(gens)
    numbers = list(range(many))
    there = (letters, tuple(_takes(numbers)))
    back = (letters + (word,), tuple(_takes(numbers) + [cuts(word + flipped(word))]))
    moves = [("put", len(word), capital), ("take", 0, many, 1)]
    returns = {letter: moves, capital: inverted(behind, word, moves)}
    return Change(presentation, behind, there, back, returns={}, returns_behind=returns)


def without_generator(presentation, k):
    """Return the change that removes the last generator by a relator in which it occurs once."""
    check_presentation(presentation)
    if presentation[0] == 1:
        raise BadNumber("there is only one generator")
    _check_relator(presentation, k)
    word, returns = _solved_for_last(presentation, k)
    gens, relators = presentation
    letters = _small_letters(gens - 1)
    words = letters + (word,)
    images = [image_of_text(words, text) for text in relators]
    left = [j for j, text in enumerate(images) if j != k and text != ""]
    if any([len(images[j]) > LONGEST_RELATOR for j in left]):
        raise TooLarge("a relator has more than 20 letters")
    behind = (gens - 1, tuple([images[j] for j in left]))
    # The images of the others are empty, or the relator k with its last generator solved for.
    there = [[("take", 0, left.index(j), 1)] if j in left else cuts(text) for j, text in enumerate(images)]
    back = [_returning_moves(returns, relators[j]) + [("take", 0, j, 1)] for j in left]
    return Change(
        presentation, behind, (words, tuple(there)), (letters, tuple(back)), returns=returns, returns_behind={},
    )


def _solved_for_last(presentation, k):
    """Return the word that the last generator is equal to by a relator, and the moves from it to its letters."""
    capital = letters_of(presentation[0])[-1]
    letter = inverse_letter(capital)
    text = presentation[1][k]
    if text.count(letter) + text.count(capital) != 1:
        raise BadNumber("the last generator does not occur exactly once in the relator")
    if letter in text:
        front, _, end = text.partition(letter)
        word = flipped(front) + flipped(end)
        add = ("add", len(front), k, 1)
    else:
        front, _, end = text.partition(capital)
        word = end + front
        add = ("add", len(end), k, -1)
    moves = [add] + cuts(word_after(presentation, word, add))
    return (word, {letter: moves, capital: inverted(presentation, word, moves)})
