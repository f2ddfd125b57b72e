"""The completion of a presentation to a system of rules that are backed by moves."""

from heapq import heappop, heappush

from cayleywalk.backed import opposite_walk
from cayleywalk.errors import TooLarge
from cayleywalk.letters import MOST_LETTERS, shortlex_key
from cayleywalk.rewrite import reduction
from cayleywalk.rules import free_rules, laid_over, results_of

MOST_MADE = 400
MOST_ACTIVE = 120
MOST_WORK = 30000


class Completion:
    """Rules of a presentation: `made` holds all of them, `active` the numbers of those in use."""

    def __init__(self, presentation):
        self.presentation = presentation
        self.made = []
        self.active = []
        self._waiting = []
        self._pushed = 0
        self._work = 0

    def complete(self):
        """Make rules until the active ones are complete; raise TooLarge if they get too many."""
        for left, right in free_rules(self.presentation[0]):
            self._add(left, right, [("cut", 0)])
        sizes = [(len(text), k) for k, text in enumerate(self.presentation[1])]
        for _, k in sorted(sizes):
            self._settle(self.presentation[1][k], "", [("take", 0, k, 1)])
        while self._waiting:
            _, _, i, j, place, word = heappop(self._waiting)
            if i in self.active and j in self.active:
                one, other = results_of(self.made, (i, j, place, word))
                self._settle(one, other, [("use", 0, i, -1), ("use", place, j, 1)])

    def _settle(self, one, other, moves):
        """Make two words equal between which a walk leads, and whatever must be settled then."""
        equations = [(one, other, moves)]
        while equations:
            left, right, walk = self._lessened(equations.pop())
            if left != right:
                equations.extend(self._add(left, right, walk))

    def _lessened(self, equation):
        """Return the normal forms of two equal words, the greater one first, and the walk."""
        one, other, moves = equation
        system = [self.made[k][:2] for k in self.active]
        left, steps = reduction(system, one)
        right, more = reduction(system, other)
        self._work += 1 + len(steps) + len(more)
        if self._work > MOST_WORK:
            raise TooLarge("the completion takes too many steps")
        walk = opposite_walk(self.presentation, self.made, one, self._uses(steps)) + moves + self._uses(more)
        if shortlex_key(left) < shortlex_key(right):
            return (right, left, opposite_walk(self.presentation, self.made, left, walk))
        return (left, right, walk)

    def _uses(self, steps):
        return [("use", place, self.active[index], 1) for place, index in steps]

    def _add(self, left, right, walk):
        """Add a rule; return the equations of the rules whose left sides can now be rewritten."""
        new = len(self.made)
        self.made.append((left, right, tuple(walk)))
        gone = [k for k in self.active if left in self.made[k][0]]
        self.active = [k for k in self.active if k not in gone] + [new]
        if new >= MOST_MADE or len(self.active) > MOST_ACTIVE or len(left) > MOST_LETTERS:
            raise TooLarge("the rules get too many, or too long")
        for k in self.active:
            self._keep_overlaps(new, k)
            if k != new:
                self._keep_overlaps(k, new)
        return [(self.made[k][0], self.made[k][1], [("use", 0, k, 1)]) for k in gone]

    def _keep_overlaps(self, i, j):
        """Keep the overlaps of two rules for later, shorter ones first."""
        for place, word in laid_over(self.made[i][0], self.made[j][0]):
            if i != j or place > 0:
                heappush(self._waiting, (len(word), self._pushed, i, j, place, word))
                self._pushed += 1


def needed_only(chain, kept):
    """Return the part of a chain that its kept rules need, and the kept rules in it."""
    needed = {k: True for k in kept}
    for k in range(len(chain) - 1, -1, -1):
        if k in needed:
            needed.update({move[2]: True for move in chain[k][2] if move[0] == "use"})
    order = sorted(needed)
    numbers = {old: new for new, old in enumerate(order)}
    entries = [(chain[k][0], chain[k][1], _renumbered(chain[k][2], numbers)) for k in order]
    return (tuple(entries), tuple([numbers[k] for k in kept]))


def _renumbered(moves, numbers):
    return tuple([
        ("use", move[1], numbers[move[2]], move[3]) if move[0] == "use" else move for move in moves
    ])
