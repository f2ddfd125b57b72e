"""Promises [260] to [269]: the checker of certificates."""

import ast
import itertools
import os
import random
import unittest

from cayleywalk import backed, certificates, decide as deciding, solve
from cayleywalk.certificates import (
    are_different, images_differ, is_solution, is_sound, is_walk, shown, solution_differs, weights_differ,
)
from cayleywalk.errors import NotPresentation, NotWord, TooLarge
from cayleywalk.images import permutation_of, tells_apart
from cayleywalk.letters import letters_of
from cayleywalk.weights import fits, weight_of
from answer_samples import FIVE, FOUR, FREE, INFINITE, KINDS, changed_answers
from chain_samples import (
    GRID, GRID_CHAIN, TRIVIAL, TWO, TWO_CHAIN, plain_walked, random_walk_in, some_chains, trivial_rule, use_moves,
)
from family_samples import families
from group_samples import GROUPS
from rule_samples import NO_RULES, plain_form
from samples import NO_PRESENTATIONS, PRESENTATIONS, STRANGERS, some_words, words_up_to

ODD_NUMBERS = [-1, 2, 99, 10 ** 30, -10 ** 30]
ODD_STRINGS = ["", "d", "aA", "a a", "\u00e4", "ab"]

# b is free, and c is b. Reductions take long where many a stand behind many b.
LONG = (3, ("a", "cB"))


def walk_to_b(many):
    """Return the moves from so many c to as many b."""
    return [move for at in range(many) for move in (("put", at + 1, "B"), ("take", at, 1, 1))]


def long_chain(end):
    """Return a chain for LONG with one overlap of 2000 steps, and one more for each letter of `end`."""
    tail = "a" * 40 + end
    vanish = [("take", 1, 0, 1 if letter == "a" else -1) for letter in tail]
    return (
        ("ba", "ab", (("take", 1, 0, 1), ("add", 0, 0, 1))),
        ("a", "", (("take", 0, 0, 1),)),
        ("A", "", (("take", 0, 0, -1),)),
        ("bB", "", (("cut", 0),)),
        ("Bb", "", (("cut", 0),)),
        ("c", "b", tuple(walk_to_b(1))),
        ("C", "B", (("put", 0, "B"), ("take", 1, 1, -1))),
        ("c" * 49, "b" * 49, tuple(walk_to_b(49))),
        ("c" + tail, "b", tuple(vanish + walk_to_b(1))),
    )


ALL_NINE = tuple(range(9))


def odd_moves():
    """Return moves of the five forms with any integers and any strings in them."""
    found = [("put", 0, text) for text in ODD_STRINGS] + [("put", at, "a") for at in ODD_NUMBERS]
    found += [("cut", at) for at in ODD_NUMBERS + [0, 1]]
    for kind in ("add", "take", "use"):
        found += [(kind, at, 0, 1) for at in ODD_NUMBERS]
        found += [(kind, 0, k, 1) for k in ODD_NUMBERS]
        found += [(kind, 0, 0, sign) for sign in (0, 2, -2, 10 ** 30)]
    return found


def plain_is_rule(gens, left, right):
    letters = letters_of(gens)
    if any(letter not in list(letters) for letter in left + right) or max(len(left), len(right)) > 60:
        return False
    key = [(len(text), [letters.index(letter) for letter in text]) for text in (right, left)]
    return key[0] < key[1]


def plain_is_walk(presentation, chain, start, end, moves):
    """Return whether the moves are a walk, by trying the allowed moves of the samples."""
    word = start
    for move in moves:
        if move[0] == "use":
            if not 0 <= move[2] < len(chain) or not plain_is_rule(presentation[0], *chain[move[2]][:2]):
                return False
            if move not in use_moves(presentation, chain, word):
                return False
            word = plain_walked(presentation, chain, word, [move])[-1]
            continue
        try:
            word = backed.moved_in(presentation, (), word, move)
        except ValueError:
            return False
    return word == end


class ImportsTest(unittest.TestCase):
    def test_the_errors_alone(self):
        with open(certificates.__file__, encoding="utf-8") as file:
            tree = ast.parse(file.read())
        modules = [node.module for node in ast.walk(tree) if isinstance(node, ast.ImportFrom)]
        self.assertEqual(modules, ["cayleywalk.errors"])
        self.assertEqual([node for node in ast.walk(tree) if isinstance(node, ast.Import)], [])
        self.assertEqual(os.path.basename(certificates.__file__), "certificates.py")


class IsWalkTest(unittest.TestCase):
    def test_random_walks(self):
        seen = {True: 0, False: 0}
        for at, (presentation, chain) in enumerate(some_chains(241, 40)):
            chance = random.Random(at)
            for word in some_words(presentation[0], 242 + at, 3, 6):
                moves, end = random_walk_in(presentation, chain, word, chance, 6)
                self.assertIs(is_walk(presentation, chain, word, end, moves), True)
                self.assertIs(is_walk(presentation, chain, word, end + "aA", moves), False)
                for k, move in enumerate(moves):
                    for other in [(move[0], move[1] + 1) + move[2:], ("cut", move[1]), (move[0], -1) + move[2:]]:
                        changed = moves[:k] + [other] + moves[k + 1:]
                        expected = plain_is_walk(presentation, chain, word, end, changed)
                        self.assertIs(is_walk(presentation, chain, word, end, changed), expected)
                        seen[expected] += 1
                    self.assertIs(
                        is_walk(presentation, chain, word, end, moves[:k] + moves[k + 1:]),
                        plain_is_walk(presentation, chain, word, end, moves[:k] + moves[k + 1:]),
                    )
        self.assertGreater(min(seen.values()), 30)

    def test_any_integers_and_strings(self):
        for presentation, chain in [(GRID, GRID_CHAIN), (TWO, TWO_CHAIN), (GRID, ()), (TWO, (("aa", "", ()),))]:
            for move in odd_moves():
                for word in ["", "a", "aA", "aaA"]:
                    try:
                        behind = backed.moved_in(presentation, chain, word, move)
                    except ValueError:
                        behind = None
                    for end in ["", "a", "aA", "aaA", "aa"]:
                        self.assertIs(is_walk(presentation, chain, word, end, [move]), behind == end, (move, word, end))

    def test_use_of_rules_that_are_none(self):
        for left, right in NO_RULES:
            chain = ((left, right, ()),)
            for sign, start, end in [(1, left, right), (-1, right, left)]:
                if set(start + end) <= set("aA"):
                    self.assertIs(is_walk((1, ()), chain, start, end, [("use", 0, 0, sign)]), False)
            self.assertIs(is_walk((1, ()), chain, "a", "a", []), True)
        # The same rules, one letter more: they are rules then.
        self.assertIs(is_walk((1, ()), (("aa", "a", ()),), "aa", "a", [("use", 0, 0, 1)]), True)
        self.assertIs(is_walk((1, ()), (("aa", "A", ()),), "A", "aa", [("use", 0, 0, -1)]), True)
        self.assertIs(is_walk((1, ()), (("a" * 60, "", ()),), "a" * 60, "", [("use", 0, 0, 1)]), True)

    def test_the_chain_need_not_be_sound(self):
        chain = (("a", "", (("cut", 7),)),)
        self.assertIs(is_walk((1, ()), chain, "aa", "", [("use", 1, 0, 1), ("use", 0, 0, 1)]), True)
        self.assertIs(is_sound((1, ()), chain), False)

    def test_lengths(self):
        self.assertIs(is_walk(TWO, (), "a" * 198, "a" * 200, [("add", 0, 0, 1)]), True)
        self.assertIs(is_walk(TWO, (), "a" * 199, "a" * 199, [("add", 0, 0, 1), ("take", 0, 0, 1)]), False)
        self.assertIs(is_walk(TWO, (), "a" * 199, "a" * 199, [("put", 0, "a"), ("cut", 0)]), False)
        self.assertIs(is_walk(TWO, (), "a" * 200, "a" * 200, []), True)
        chain = (("A", "a", ()), ("aa", "A", ()))
        self.assertIs(is_walk(TWO, chain, "A" * 200, "A" * 199 + "a", [("use", 199, 0, 1)]), True)
        self.assertIs(is_walk(TWO, chain, "A" * 200, "A" * 200, [("use", 0, 1, -1), ("use", 0, 1, 1)]), False)
        self.assertIs(is_walk(TWO, chain, "A" * 199, "aa" + "A" * 198, [("use", 0, 1, -1)]), True)


class IsSoundTest(unittest.TestCase):
    def test_sound_chains(self):
        for presentation, chain in some_chains(243, 40):
            self.assertIs(is_sound(presentation, chain), True)
            for k in range(len(chain)):
                self.assertIs(is_sound(presentation, chain[:k]), True)

    def test_one_part_changed(self):
        seen = {True: 0, False: 0}
        for presentation, chain in some_chains(244, 40):
            for k, (left, right, moves) in enumerate(chain):
                for entry in [
                    (right, left, moves), (left + "a", right, moves), (left, right, moves[1:]), (left, right, moves[:-1]),
                    (left, right, moves + (("use", 0, k, 1),)), (left, right, moves + (("cut", 0),)), (left, "d", moves),
                    ("a" + left, "a" + right, tuple((move[0], move[1] + 1) + move[2:] for move in moves)),
                ]:
                    changed = chain[:k] + (entry,) + chain[k + 1:]
                    expected = backed.first_fault(presentation, changed) is None
                    seen[expected] += 1
                    self.assertIs(is_sound(presentation, changed), expected)
        self.assertGreater(min(seen.values()), 20)

    def test_rules_before_only(self):
        fine = (("A", "a", (("add", 0, 0, 1), ("cut", 1))), ("AA", "Aa", (("use", 1, 0, 1),)))
        self.assertIs(is_sound(TWO, fine), True)
        self.assertIs(is_sound(TWO, fine[::-1]), False)
        self.assertIs(is_sound(TWO, (("A", "a", (("use", 0, 0, 1),)),)), False)
        self.assertIs(is_sound(TWO, (("AA", "Aa", (("use", 1, 1, 1),)), fine[0])), False)

    def test_number_of_entries(self):
        self.assertIs(is_sound(TWO, TWO_CHAIN * 30), True)
        self.assertIs(is_sound(TWO, TWO_CHAIN * 30 + TWO_CHAIN[:1]), False)
        self.assertIs(is_sound(TWO, ()), True)

    def test_any_integers_and_strings(self):
        for left, right in NO_RULES:
            self.assertIs(is_sound((1, ()), ((left, right, ()),)), False)
        for move in odd_moves():
            chain = (("aA", "", (move,)),)
            self.assertIs(is_sound(TWO, chain), backed.first_fault(TWO, chain) is None, move)


class ImagesAndWeightsTest(unittest.TestCase):
    def some_images(self, gens, chance):
        degree = chance.randint(1, 8)
        images = [tuple(chance.sample(range(degree), degree)) for _ in range(gens)]
        if chance.random() < 0.5:
            images = [tuple(range(degree)) if chance.random() < 0.5 else tuple(range(1, degree)) + (0,) for _ in images]
        return tuple(images)

    def test_images(self):
        chance = random.Random(245)
        seen = {True: 0, False: 0}
        for presentation, one, other, _ in KINDS * 3 + [(presentation, "a", "", "") for presentation in PRESENTATIONS]:
            for _ in range(20):
                images = self.some_images(presentation[0], chance)
                expected = tells_apart(presentation, images, one, other)
                seen[expected] += 1
                self.assertIs(images_differ(presentation, one, other, images), expected)
        self.assertGreater(min(seen.values()), 50)

    def test_faithful_images(self):
        for presentation, images in GROUPS:
            if len(images[0]) > 8:
                self.assertIs(images_differ(presentation, "a", "", images), False)
                continue
            for word in words_up_to(presentation[0], 2):
                expected = permutation_of(images, word) != permutation_of(images, "")
                self.assertIs(images_differ(presentation, word, "", images), expected)

    def test_images_that_are_none(self):
        for images in [
            (), ((),), ((1, 0), (1, 0)), ((0, 0),), ((1, 2),), ((1, 0, 2), (0, 1)), ((-1, 0),), ((1, 0, 10 ** 30),),
            (tuple(range(1, 9)) + (0,),), ((2, 1),), ((1, -1),),
        ]:
            self.assertIs(images_differ((1, ()), "a", "", images), False)
            self.assertIs(are_different((1, ()), ["a", ""], images), False)
        for images in [((1, 0),), ((1, 0), (0, 1, 2)), ((0, 1, 2), (1, 0)), ((1, 0), (0, 1), (0, 1)), ((1, 0), ()), ((), ())]:
            self.assertIs(images_differ((2, ()), "a", "", images), False)
            self.assertIs(are_different((2, ()), ["a"], images), False)
        self.assertIs(images_differ((1, ()), "a", "", (tuple(range(1, 8)) + (0,),)), True)

    def test_images_that_do_not_satisfy(self):
        self.assertIs(images_differ(TWO, "a", "", ((1, 2, 0),)), False)
        self.assertIs(images_differ(TWO, "a", "", ((1, 0),)), True)
        self.assertIs(images_differ((1, ("aa", "aaa")), "a", "", ((1, 0),)), False)
        self.assertIs(images_differ(TWO, "a", "A", ((1, 0),)), False)

    def test_weights(self):
        chance = random.Random(246)
        seen = {True: 0, False: 0}
        for presentation, one, other, _ in KINDS * 4:
            for _ in range(20):
                modulus = chance.choice([0, 2, 3, 4, 5, 10 ** 20])
                weights = (modulus, tuple(chance.choice([0, 1, 1, -1, 2, 10 ** 20]) for _ in range(presentation[0])))
                expected = fits(presentation, weights) and weight_of(weights, one) != weight_of(weights, other)
                seen[expected] += 1
                self.assertIs(weights_differ(presentation, one, other, weights), expected)
        self.assertGreater(min(seen.values()), 50)

    def test_weights_that_are_none(self):
        for weights in [(1, (1,)), (-1, (1,)), (-2, (1,)), (0, ()), (0, (1, 1)), (2, (1, 0, 0)), (-10 ** 30, (1,))]:
            self.assertIs(weights_differ((1, ()), "a", "", weights), False)
        self.assertIs(weights_differ((1, ()), "a", "", (0, (1,))), True)
        self.assertIs(weights_differ((1, ()), "a", "", (2, (3,))), True)
        self.assertIs(weights_differ((1, ()), "a", "", (2, (4,))), False)
        self.assertIs(weights_differ(TWO, "a", "", (0, (1,))), False)
        self.assertIs(weights_differ(TWO, "a", "", (2, (1,))), True)
        self.assertIs(weights_differ(TWO, "a", "", (10 ** 30, (5 * 10 ** 29,))), True)
        self.assertIs(weights_differ(TWO, "a", "", (10 ** 30, (5 * 10 ** 29 + 1,))), False)

    def test_longest_words(self):
        word = "ab" * 100
        self.assertIs(images_differ(FREE, word, "", ((1, 0, 2), (0, 2, 1))), True)
        self.assertIs(weights_differ(FREE, word, word[1:], (0, (1, 0))), True)
        self.assertIs(are_different(FREE, [word, ""], ((1, 0, 2), (0, 2, 1))), True)


class AreDifferentTest(unittest.TestCase):
    def test_groups(self):
        for presentation, images in GROUPS:
            if len(images[0]) > 8:
                continue
            words = {}
            for word in words_up_to(presentation[0], 3):
                words.setdefault(permutation_of(images, word), word)
            chosen = list(words.values())
            self.assertIs(are_different(presentation, chosen, images), True)
            self.assertIs(are_different(presentation, [], images), True)
            for k, word in enumerate(chosen):
                self.assertIs(are_different(presentation, [word], images), True)
                self.assertIs(are_different(presentation, chosen + [word], images), False)
                self.assertIs(are_different(presentation, [word + "aA"] + chosen, images), False)

    def test_images_must_satisfy(self):
        self.assertIs(are_different(TWO, ["", "a"], ((1, 0),)), True)
        self.assertIs(are_different(TWO, ["", "a"], ((1, 2, 0),)), False)
        self.assertIs(are_different(TWO, [], ((1, 2, 0),)), False)

    def test_number_of_words(self):
        images = ((1, 2, 3, 4, 5, 6, 7, 0), (1, 0, 2, 3, 4, 5, 6, 7))
        words = {}
        for word in [""] + some_words(2, 248, 1000, 40):
            words.setdefault(permutation_of(images, word), word)
        words = list(words.values())
        self.assertGreater(len(words), 200)
        self.assertIs(are_different(FREE, words[:200], images), True)
        self.assertIs(are_different(FREE, words[:201], images), False)
        self.assertIs(are_different(FREE, words[:199] + [""], images), False)
        self.assertRaises(NotWord, are_different, FREE, words[:201] + ["c"], images)


class IsSolutionTest(unittest.TestCase):
    def test_families(self):
        for family in families():
            chain, kept = solve.solved(family)
            self.assertIs(is_solution(family, chain, kept), True)
            for k in (0, len(kept) // 2, len(kept) - 1):
                less = kept[:k] + kept[k + 1:]
                self.assertIs(is_solution(family, chain, less), solve.is_solution(family, chain, less))

    def test_agrees_with_solve(self):
        seen = {True: 0, False: 0}
        tuples = [()] + [kept for size in range(1, 5) for kept in itertools.combinations(range(4), size)]
        tuples += [(2, 3, 4), (3, 2), (2, 2), (-1, 3), (2, 10 ** 30)]
        for presentation in [TWO, (1, ()), (1, ("aa", "aaaa")), (1, ("aa", "a")), (2, ("aa",)), (1, ("aaa",))]:
            for kept in tuples:
                expected = solve.is_solution(presentation, TWO_CHAIN, kept)
                seen[expected] += 1
                self.assertIs(is_solution(presentation, TWO_CHAIN, kept), expected)
        for k in range(len(GRID_CHAIN)):
            self.assertIs(is_solution(GRID, GRID_CHAIN, tuple(at for at in range(8) if at != k)), False)
        self.assertIs(is_solution(GRID, GRID_CHAIN, tuple(range(8))), True)
        self.assertGreater(min(seen.values()), 3)

    def test_number_of_kept_rules(self):
        chain = TWO_CHAIN + TWO_CHAIN[:2] * 58
        self.assertEqual(len(chain), 120)
        self.assertIs(is_solution(TWO, chain, (2, 3) + tuple(range(4, 82))), True)
        self.assertIs(is_solution(TWO, chain, (2, 3) + tuple(range(4, 83))), False)

    def test_unsound_chains(self):
        self.assertIs(is_solution(TWO, TWO_CHAIN + (("a", "", ()),), (2, 3)), False)
        self.assertIs(is_solution(TWO, TWO_CHAIN[:3] + (("A", "a", ()),), (2, 3)), False)
        self.assertIs(is_solution(TWO, TWO_CHAIN + TWO_CHAIN[:1] * 117, (2, 3)), False)

    def test_two_thousand_steps_of_an_overlap(self):
        for end, many in [("", 2000), ("A", 2001)]:
            chain = long_chain(end)
            self.assertIs(is_sound(LONG, chain), True)
            self.assertIs(is_solution(LONG, chain, ALL_NINE), many == 2000)
            self.assertIs(solution_differs(LONG, "b", "", chain, ALL_NINE), many == 2000)
            self.assertEqual(shown(LONG, "b", "", ("system", chain, ALL_NINE)), "other" if many == 2000 else "none")
            if many == 2000:
                self.assertIs(solve.is_solution(LONG, chain, ALL_NINE), True)
            else:
                self.assertRaises(TooLarge, solve.is_solution, LONG, chain, ALL_NINE)

    def test_two_thousand_steps_of_a_word(self):
        presentation, chain, kept = (2, ("a",)), long_chain("")[:5], tuple(range(5))
        self.assertIs(is_solution(presentation, chain, kept), True)
        # Each a needs a step for each b ahead of it, and one to vanish.
        slow, slower = "b" * 99 + "a" * 20, "b" * 86 + "a" * 23
        self.assertEqual((20 * 100, 23 * 87), (2000, 2001))
        for one, other, expected in [(slow, "", True), ("", slow, True), (slower, "", False), ("", slower, False)]:
            self.assertIs(solution_differs(presentation, one, other, chain, kept), expected)
        self.assertIs(solution_differs(presentation, slow, "b" * 99, chain, kept), False)
        self.assertIs(solution_differs(presentation, slower, slower, chain, kept), False)
        self.assertIs(solution_differs(presentation, slow + "A", "", chain, kept), False)

    def test_trivial_chain(self):
        chain = (trivial_rule("ba", "ab"), trivial_rule("C" * 59 + "c", "b" * 60), trivial_rule("c" + "a" * 59, ""))
        for kept in [(), (0,), (0, 1), (0, 1, 2)]:
            self.assertIs(is_solution(TRIVIAL, chain, kept), False)

    def test_words_that_differ(self):
        for presentation in [TWO, GRID, FIVE, FOUR, FREE, INFINITE, (3, ("aa", "b"))]:
            chain, kept = solve.solved(presentation)
            system = solve.system_of(chain, kept)
            words = words_up_to(presentation[0], 2) + some_words(presentation[0], 247, 6, 30)
            for one, other in zip(words, words[5:] + words[:5]):
                expected = plain_form(system, one) != plain_form(system, other)
                self.assertIs(solution_differs(presentation, one, other, chain, kept), expected)
                self.assertIs(solution_differs(presentation, one, other, chain, kept[:-1]), False)


class ShownTest(unittest.TestCase):
    def test_answers_of_decide(self):
        for presentation, one, other, kind in KINDS:
            answer = deciding.decide(presentation, one, other)
            self.assertEqual(shown(presentation, one, other, answer), deciding.shows(answer))

    def test_all_forms_and_changes(self):
        seen = {}
        answers = [(presentation, deciding.decide(presentation, one, other)) for presentation, one, other, _ in KINDS]
        for presentation, one, other, _ in KINDS:
            tried = changed_answers(presentation, one, other)
            tried += [answer for second, answer in answers if second[0] == presentation[0]]
            for answer in tried:
                found = shown(presentation, one, other, answer)
                right = deciding.is_answer(presentation, one, other, answer)
                self.assertEqual(found, deciding.shows(answer) if right else "none")
                seen[answer[0], found] = True
        self.assertEqual(len(seen), 9)

    def test_nothing_contradicts(self):
        for presentation, one, other, _ in KINDS:
            tried = changed_answers(presentation, one, other)
            tried += [deciding.decide(*told[:3]) for told in KINDS if told[0][0] == presentation[0]]
            found = {shown(presentation, one, other, answer) for answer in tried}
            self.assertFalse({"same", "other"} <= found)


class ErrorsTest(unittest.TestCase):
    def calls(self, presentation, one, other):
        """Call each function that takes two words, with certificates that are wrong."""
        return [
            (is_walk, (presentation, (), one, other, [("cut", 9)])),
            (images_differ, (presentation, one, other, ())),
            (weights_differ, (presentation, one, other, (1, ()))),
            (are_different, (presentation, [one, other], ())),
            (solution_differs, (presentation, one, other, (), (7,))),
            (shown, (presentation, one, other, ("open",))),
            (shown, (presentation, one, other, ("equal", (), [("cut", 9)]))),
            (shown, (presentation, one, other, ("weights", (1, ())))),
            (shown, (presentation, one, other, ("images", ()))),
            (shown, (presentation, one, other, ("system", (), (7,)))),
        ]

    def test_presentations_first(self):
        for value in NO_PRESENTATIONS:
            for function, arguments in self.calls(value, "x", "x"):
                self.assertRaises(NotPresentation, function, *arguments)
            self.assertRaises(NotPresentation, is_sound, value, (("", "", ()),))
            self.assertRaises(NotPresentation, is_solution, value, (("", "", ()),), (7,))

    def test_presentations_that_are_right(self):
        for presentation in PRESENTATIONS + [(1, ("a" * 20,)), (3, ("abc",) * 8)]:
            self.assertIs(is_sound(presentation, ()), True)

    def test_words(self):
        for word in STRANGERS + ["c", "aC", "a" * 201, "ab" * 101]:
            for pair in [(word, "a"), ("a", word), (word, word)]:
                for function, arguments in self.calls(GRID, *pair):
                    self.assertRaises(NotWord, function, *arguments)
        for word in ["a" * 200, "", "ab" * 100]:
            for function, arguments in self.calls(GRID, word, word):
                self.assertIn(function(*arguments), (False, "none", "open"))


class ExamplesTest(unittest.TestCase):
    def test_examples(self):
        self.assertIs(is_walk(GRID, (), "ba", "ab", [("add", 0, 0, 1), ("cut", 3), ("cut", 2)]), True)
        self.assertIs(images_differ(GRID, "a", "b", ((1, 0), (0, 1))), True)
        self.assertIs(weights_differ(GRID, "a", "b", (0, (1, 0))), True)
        self.assertIs(is_solution(TWO, TWO_CHAIN, (2, 3)), True)
        self.assertIs(solution_differs(TWO, "a", "", TWO_CHAIN, (2, 3)), True)


if __name__ == "__main__":
    unittest.main()
