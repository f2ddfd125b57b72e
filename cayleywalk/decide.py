"""Answers whether two words are equal in a group, with what shows it."""

from cayleywalk.backed import first_fault, is_walk
from cayleywalk.derive import free_derivation
from cayleywalk.errors import NotImages, NotWeights
from cayleywalk.images import tells_apart
from cayleywalk.letters import check_word
from cayleywalk.presentations import check_presentation
from cayleywalk.rewrite import reduction
from cayleywalk.search import first_images
from cayleywalk.solve import is_solution, meeting, solved, system_of
from cayleywalk.weights import fits, weight_of, weights_apart

MOST_POINTS_TRIED = 3
SHOWN = {"equal": "same", "weights": "other", "images": "other", "system": "other", "open": "open"}


def _check(presentation, one, other):
    check_presentation(presentation)
    check_word(presentation[0], one)
    check_word(presentation[0], other)


def decide(presentation, one, other):
    """Return an answer for two words."""
    _check(presentation, one, other)
    answer = _answer_at_once(presentation, one, other)
    if answer is None:
        return _answer_by_solution(presentation, solved(presentation), one, other)
    return answer


def _answer_at_once(presentation, one, other):
    """Return an answer without a solution of the presentation, or None."""
    moves = free_derivation(presentation, one, other)
    if moves is not None:
        return ("equal", (), moves)
    weights = weights_apart(presentation, one, other)
    if weights is not None:
        return ("weights", weights)
    images = first_images(presentation, one, other, most=MOST_POINTS_TRIED)
    if images is not None:
        return ("images", images)
    return None


def _answer_by_solution(presentation, solution, one, other):
    """Return the answer that a solution gives; it is open if there is none."""
    if solution is None:
        return ("open",)
    chain, kept = solution
    moves = meeting(presentation, chain, kept, one, other)
    if moves is None:
        return ("system", chain, kept)
    return ("equal", chain, moves)


def is_answer(presentation, one, other, answer):
    """Return True if a tuple is an answer for two words."""
    _check(presentation, one, other)
    if answer[0] == "equal":
        _, chain, moves = answer
        return first_fault(presentation, chain) is None and is_walk(presentation, chain, one, other, moves)
    if answer[0] == "weights":
        return _weights_differ(presentation, one, other, answer[1])
    if answer[0] == "images":
        return _images_differ(presentation, one, other, answer[1])
    if answer[0] == "system":
        return _forms_differ(presentation, one, other, answer[1:])
    return True


def _weights_differ(presentation, one, other, weights):
    try:
        return fits(presentation, weights) and weight_of(weights, one) != weight_of(weights, other)
    except NotWeights:
        return False


def _images_differ(presentation, one, other, images):
    try:
        return tells_apart(presentation, images, one, other)
    except NotImages:
        return False


def _forms_differ(presentation, one, other, solution):
    chain, kept = solution
    if not is_solution(presentation, chain, kept):
        return False
    system = system_of(chain, kept)
    return reduction(system, one)[0] != reduction(system, other)[0]


def shows(answer):
    """Return what the kind of an answer shows: "same", "other" or "open"."""
    return SHOWN[answer[0]]


class Decider:
    """A presentation with its solution, and the answers that were given for it."""

    def __init__(self, presentation):
        self._solution = solved(presentation)
        self.presentation = presentation
        self._given = []

    def answer(self, one, other):
        """Return an answer for two words, and keep it."""
        _check(self.presentation, one, other)
        answer = _answer_at_once(self.presentation, one, other)
        if answer is None:
            answer = _answer_by_solution(self.presentation, self._solution, one, other)
        self._given.append(_copied(answer))
        return answer

    def solution(self):
        """Return the solution of the presentation, or None."""
        return self._solution

    def __len__(self):
        return len(self._given)

    def __iter__(self):
        return iter(self._given)


def _copied(answer):
    """Return the answer with a list of its own, if it has one."""
    if answer[0] == "equal":
        return ("equal", answer[1], list(answer[2]))
    return answer
