"""The checker of certificates. It searches for nothing, and leans on no other module but the errors."""

from cayleywalk.errors import NotPresentation, NotWord

LETTERS = "aAbBcC"
MOST_GENERATORS = 3
MOST_RELATORS = 8
LONGEST_RELATOR = 20
LONGEST_WORD = 200
LONGEST_SIDE = 60
MOST_ENTRIES = 120
MOST_KEPT = 80
MOST_STEPS = 2000
MOST_POINTS = 8
MOST_COMPARED = 200


def _check(presentation, words):
    """Raise NotPresentation, then NotWord for the first word that is not one of at most 200 letters."""
    gens, relators = presentation
    if gens < 1 or gens > MOST_GENERATORS or len(relators) > MOST_RELATORS:
        raise NotPresentation("the number of generators or relators is wrong")
    for text in relators:
        if text == "" or not _is_over(gens, text, LONGEST_RELATOR):
            raise NotPresentation("a relator is wrong")
    for word in words:
        if not _is_over(gens, word, LONGEST_WORD):
            raise NotWord("not a word of at most 200 letters over the letters of the presentation")


def _is_over(gens, text, longest):
    """Return True if a string has only letters of so many generators, and not too many."""
    letters = LETTERS[:2 * gens]
    return len(text) <= longest and all([letter in letters for letter in text])


def _turned(word):
    """Return the inverse of a word."""
    return word[::-1].swapcase()


def _comes_before(one, other):
    """Return True if the first word comes before the second one in shortlex."""
    if len(one) != len(other):
        return len(one) < len(other)
    return [LETTERS.index(letter) for letter in one] < [LETTERS.index(letter) for letter in other]


def _is_rule(gens, left, right):
    if not (_is_over(gens, left, LONGEST_SIDE) and _is_over(gens, right, LONGEST_SIDE)):
        return False
    return _comes_before(right, left)


def _replacement(presentation, chain, word, move):
    """Return the text that a move removes at its place and the one that it puts there, or None."""
    gens = presentation[0]
    if move[0] == "put":
        letter = move[2]
        if len(letter) != 1 or not _is_over(gens, letter, 1):
            return None
        return ("", letter + _turned(letter))
    if move[0] == "cut":
        letter = word[move[1]:move[1] + 1]
        if letter == "":
            return None
        return (letter + _turned(letter), "")
    k, sign = move[2], move[3]
    sides = _rule_sides(gens, chain, k) if move[0] == "use" else _relator_sides(presentation, move[0], k, sign)
    if sides is None or sign not in (1, -1):
        return None
    if move[0] == "use" and sign == -1:
        return (sides[1], sides[0])
    return sides


def _rule_sides(gens, chain, k):
    """Return the two sides of a rule of a chain, or None if there is none with this number."""
    if k < 0 or k >= len(chain):
        return None
    left, right, _ = chain[k]
    return (left, right) if _is_rule(gens, left, right) else None


def _relator_sides(presentation, kind, k, sign):
    """Return what `add` or `take` removes and puts, or None if there is no such relator."""
    relators = presentation[1]
    if k < 0 or k >= len(relators):
        return None
    text = relators[k] if sign == 1 else _turned(relators[k])
    return ("", text) if kind == "add" else (text, "")


def _moved(presentation, chain, word, move):
    """Return the word after a move, or None if the move is not allowed."""
    at = move[1]
    if at < 0 or at > len(word):
        return None
    sides = _replacement(presentation, chain, word, move)
    if sides is None or not word[at:].startswith(sides[0]):
        return None
    behind = word[:at] + sides[1] + word[at + len(sides[0]):]
    return behind if len(behind) <= LONGEST_WORD else None


def _leads(presentation, chain, start, end, moves):
    word = start
    for move in moves:
        word = _moved(presentation, chain, word, move)
        if word is None:
            return False
    return word == end


def is_walk(presentation, chain, start, end, moves):
    """Return True if the moves lead in the chain, which need not be sound, from one word to another one."""
    _check(presentation, [start, end])
    return _leads(presentation, chain, start, end, moves)


def is_sound(presentation, chain):
    """Return True if each rule of the chain is backed by moves that use only rules before it."""
    _check(presentation, [])
    if len(chain) > MOST_ENTRIES:
        return False
    for k, (left, right, moves) in enumerate(chain):
        if not _is_rule(presentation[0], left, right):
            return False
        if not _leads(presentation, chain[:k], left, right, moves):
            return False
    return True


def _steps_of(presentation, images):
    """Return the permutation of each letter, or None if these are not images that satisfy the presentation."""
    gens, relators = presentation
    if len(images) != gens or not 1 <= len(images[0]) <= MOST_POINTS:
        return None
    points = list(range(len(images[0])))
    if any([sorted(permutation) != points for permutation in images]):
        return None
    steps = {}
    for k, permutation in enumerate(images):
        steps[LETTERS[2 * k]] = permutation
        steps[LETTERS[2 * k + 1]] = [permutation.index(point) for point in points]
    if any([_ends(steps, text) != tuple(points) for text in relators]):
        return None
    return steps


def _ends(steps, word):
    """Return where a word takes the points, by the permutations of the letters."""
    points = list(range(len(steps["a"])))
    for letter in word:
        step = steps[letter]
        points = [step[point] for point in points]
    return tuple(points)


def images_differ(presentation, one, other, images):
    """Return True if the images satisfy the presentation and two words have different permutations."""
    _check(presentation, [one, other])
    return _show_different(presentation, [one, other], images)


def are_different(presentation, words, images):
    """Return True if the images satisfy the presentation and no two of the words have one permutation."""
    _check(presentation, words)
    return len(words) <= MOST_COMPARED and _show_different(presentation, words, images)


def _show_different(presentation, words, images):
    steps = _steps_of(presentation, images)
    if steps is None:
        return False
    seen = {_ends(steps, word): True for word in words}
    return len(seen) == len(words)


def weights_differ(presentation, one, other, weights):
    """Return True if the weights fit the presentation and two words have different weights."""
    _check(presentation, [one, other])
    modulus, numbers = weights
    if modulus < 0 or modulus == 1 or len(numbers) != presentation[0]:
        return False
    if any([not _is_nothing(modulus, _weight(numbers, text)) for text in presentation[1]]):
        return False
    return not _is_nothing(modulus, _weight(numbers, one) - _weight(numbers, other))


def _weight(numbers, word):
    weight = 0
    for letter in word:
        x = LETTERS.index(letter)
        weight += numbers[x // 2] if x % 2 == 0 else -numbers[x // 2]
    return weight


def _is_nothing(modulus, weight):
    return weight == 0 or (modulus > 0 and weight % modulus == 0)


def _normal_form(system, word):
    """Return the normal form of a word, or None if its reduction has more than 2000 steps."""
    start = 0
    longest = max([len(left) for left, _ in system], default=0)
    for _ in range(MOST_STEPS + 1):
        places = [word.find(left, start) for left, _ in system]
        found = [(place, k) for k, place in enumerate(places) if place >= 0]
        if len(found) == 0:
            return word
        place, k = min(found)
        left, right = system[k]
        word = word[:place] + right + word[place + len(left):]
        # Left sides that end ahead of this place were not there before.
        start = max(0, place - longest)
    return None


def _overlap_results(system):
    """Return the pairs of the results of all overlaps of the rules."""
    return [
        (right + word[len(left):], word[:place] + other_right + word[place + len(other_left):])
        for i, (left, right) in enumerate(system)
        for j, (other_left, other_right) in enumerate(system)
        for place, word in _laid_over(left, other_left)
        if i != j or place > 0
    ]


def _laid_over(left, other):
    """Return the pairs of a place in a left side where another one may stand, and the word of both."""
    found = []
    for place in range(len(left)):
        tail = left[place:]
        if tail.startswith(other) or (place > 0 and other.startswith(tail)):
            found.append((place, left + other[len(tail):]))
    return found


def _is_complete(system):
    forms = {}
    for pair in _overlap_results(system):
        for text in pair:
            if text not in forms:
                forms[text] = _normal_form(system, text)
        if forms[pair[0]] is None or forms[pair[0]] != forms[pair[1]]:
            return False
    return True


def _is_kept(chain, kept):
    """Return True if the numbers are different indexes of the chain in ascending order, and not too many."""
    if len(kept) > MOST_KEPT or any([k < 0 or k >= len(chain) for k in kept]):
        return False
    return all([kept[at] > kept[at - 1] for at in range(1, len(kept))])


def is_solution(presentation, chain, kept):
    """Return True if the chain is sound, and the kept rules are complete and remove all that is removed by moves."""
    if not is_sound(presentation, chain) or not _is_kept(chain, kept):
        return False
    system = [chain[k][:2] for k in kept]
    letters = LETTERS[:2 * presentation[0]]
    texts = [letter + _turned(letter) for letter in letters] + list(presentation[1])
    return all([_normal_form(system, text) == "" for text in texts]) and _is_complete(system)


def solution_differs(presentation, one, other, chain, kept):
    """Return True if the chain and the kept rules are a solution by which two words differ."""
    _check(presentation, [one, other])
    if not is_solution(presentation, chain, kept):
        return False
    system = [chain[k][:2] for k in kept]
    forms = [_normal_form(system, word) for word in (one, other)]
    return None not in forms and forms[0] != forms[1]


def shown(presentation, one, other, answer):
    """Return what an answer shows for two words: "same", "other", "open", or "none"."""
    _check(presentation, [one, other])
    if answer[0] == "open":
        return "open"
    if answer[0] == "equal":
        _, chain, moves = answer
        is_shown = is_sound(presentation, chain) and _leads(presentation, chain, one, other, moves)
        return "same" if is_shown else "none"
    return "other" if _tells_apart(presentation, one, other, answer) else "none"


def _tells_apart(presentation, one, other, answer):
    if answer[0] == "weights":
        return weights_differ(presentation, one, other, answer[1])
    if answer[0] == "images":
        return images_differ(presentation, one, other, answer[1])
    return solution_differs(presentation, one, other, answer[1], answer[2])
