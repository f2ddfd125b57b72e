"""Promise [0]: what stands over the whole program. Each function of the interface is called here."""

import copy
import importlib
import unittest

from cayleywalk.changes import with_generator, with_relator, without_generator, without_relator
from cayleywalk.cosets import Enumeration
from cayleywalk.decide import Decider
from cayleywalk.desk import Desk
from cayleywalk.elements import FiniteGroup
from cayleywalk.errors import CayleyError
from cayleywalk.journal import Journal, attempt, resume
from chain_samples import GRID, GRID_CHAIN, TWO, TWO_CHAIN
from machine_samples import FREE as FREE_MACHINE
from map_samples import CUBE, CUBE_OF_TWO, SIX
from test_interface import CLASSES, FUNCTIONS

POINT = ((0, 0),)
THREE = ((1, 2), (2, 0), (0, 1))
GRAPH = ((1, -1, 1, 1), (-1, 0, 0, 0))
SYSTEM = (("aa", ""), ("A", "a"))
WALK = [("add", 0, 0, 1), ("cut", 3), ("cut", 2)]
SWAP = (("b", "a"), ([("take", 0, 0, -1)],))
SIX_GROUP = FiniteGroup(SIX)
THREE_GROUP = FiniteGroup((1, ("aaa",)))

# For each file, the arguments of calls of its functions.
CALLS = {
    "letters": {
        "letters_of": [[2]], "inverse_letter": [["a"]], "rank_of": [["B"]], "shortlex_key": [["ab"]],
        "is_word": [[2, "ab"]], "check_word": [[2, "ab"]],
    },
    "words": {
        "inverse": [["ab"]], "reduced": [["aAb"]], "is_reduced": [["aAb"]], "product": [["ab", "Ba"]],
        "power": [["ab", 3]], "comes_before": [["a", "b"]], "in_order": [[["b", "a", "aa", "a"]], [[]]],
        "core_of": [["abaBA"]], "rotations": [["ab"], [""]], "least_rotation": [["ba"]], "root_of": [["abab"]],
        "commute": [["a", "aa"]], "reduced_words": [[1, 2]],
    },
    "presentations": {
        "is_presentation": [[GRID]], "check_presentation": [[GRID]], "relator": [[GRID, 0, -1]],
    },
    "moves": {
        "moved": [[GRID, "ba", ("add", 0, 0, 1)]], "undoing": [[GRID, "ba", ("add", 0, 0, 1)]],
        "shorters": [[GRID, "abABba"], [GRID, "a"]],
    },
    "derive": {
        "walked": [[GRID, "ba", WALK], [GRID, "ba", []]], "is_derivation": [[GRID, "ba", "ab", WALK]],
        "undone": [[GRID, "ba", WALK], [GRID, "ba", []]], "inverted": [[GRID, "ba", WALK], [GRID, "ba", []]],
        "shifted": [[WALK, 2], [WALK, 0], [[], 0]], "cuts": [["abABba"], [""]],
        "free_derivation": [[GRID, "aA", "Bb"], [GRID, "a", "a"]],
    },
    "images": {
        "is_permutation": [[(1, 0)]], "compose": [[(1, 0), (1, 0)]], "inverse_of": [[(1, 2, 0)]],
        "cycles_of": [[(1, 0, 2)]], "order_of": [[(1, 0)]], "sign_of": [[(1, 0)]], "check_images": [[1, ((1, 0),)]],
        "permutation_of": [[((1, 0),), "a"]], "satisfies": [[TWO, ((1, 0),)]], "tells_apart": [[TWO, ((1, 0),), "a", ""]],
        "orbits_of": [[((1, 0, 2),)]], "group_of": [[((1, 0, 2),)]],
    },
    "search": {
        "all_images": [[TWO, 2]], "first_images": [[TWO, "a", "", {"most": 2}]], "count_images": [[TWO, 3]],
    },
    "lattice": {
        "diagonal_form": [[[[2, 4], [6, 8]], 2], [[], 2], [[[1]], 1]],
        "is_diagonal_form": [[[[2]], 1, [[1]], [[2]], [[1]]]], "determinant": [[[[2, 4], [6, 8]]], [[]]],
    },
    "weights": {
        "sums_of": [[2, "ab"]], "weight_of": [[(3, (1, 2)), "ab"]], "fits": [[TWO, (2, (1,))]],
        "weights_apart": [[GRID, "a", "b"]], "combination": [[TWO, "aaa", "a"], [TWO, "a", "a"]],
        "invariants": [[GRID], [(1, ("a",))]],
    },
    "tables": {
        "check_table": [[THREE, 1]], "is_whole": [[THREE]], "is_joined": [[THREE]], "led": [[THREE, 0, "a"]],
        "standard": [[THREE]], "covering": [[THREE, POINT]], "representatives": [[THREE]], "circle_words": [[THREE]],
        "fits": [[CUBE, ["aaa"], THREE]],
    },
    "cosets": {
        "coset_table": [[CUBE, []], [CUBE, ["aa"], {"limit": 9}]], "index_of": [[CUBE, ["a"]]],
        "is_member": [[CUBE, ["a"], "aa"]],
    },
    "graphs": {
        "is_graph": [[2, GRAPH]], "read_from": [[2, GRAPH, 0, "ab"]], "standard": [[2, GRAPH]], "based": [[2, GRAPH, 1]],
        "is_full": [[2, GRAPH]], "filled": [[2, GRAPH]],
    },
    "folding": {
        "folded": [[2, ["ab", "aB"]], [2, []]], "rank_of_graph": [[2, GRAPH]], "index_of_graph": [[2, GRAPH]],
        "basis_of": [[2, GRAPH]], "meet": [[2, GRAPH, GRAPH]], "is_normal": [[2, GRAPH]],
    },
    "members": {
        "contains": [[2, GRAPH, "ab"]], "expression": [[2, ["ab", "aB"], "bb"], [2, ["ab"], ""]],
        "is_expression": [[2, ["ab", "aB"], "bb", [(1, -1), (0, 1)]]], "told_apart": [[2, ["ab"], "b"]],
    },
    "rules": {
        "check_system": [[1, SYSTEM]], "free_rules": [[2]], "overlaps": [[1, SYSTEM]],
        "results": [[1, SYSTEM, (0, 0, 1, "aaa")]],
    },
    "rewrite": {
        "normal_form": [[1, SYSTEM, "aAA"]], "trace": [[1, SYSTEM, "aAA"], [1, SYSTEM, ""]],
        "is_irreducible": [[1, SYSTEM, "a"]], "applied": [[1, SYSTEM, "aa", 0, 0]], "first_conflict": [[1, SYSTEM]],
        "is_complete": [[1, SYSTEM]], "tidied": [[1, SYSTEM]],
    },
    "backed": {
        "moved_in": [[TWO, TWO_CHAIN, "A", ("use", 0, 3, 1)]], "walked_in": [[TWO, TWO_CHAIN, "A", [("use", 0, 3, 1)]]],
        "is_walk": [[TWO, TWO_CHAIN, "A", "a", [("use", 0, 3, 1)]]], "first_fault": [[TWO, TWO_CHAIN]],
        "unfolded": [[TWO, TWO_CHAIN, "A", [("use", 0, 3, 1)]], [GRID, (), "ba", WALK]],
    },
    "solve": {
        "system_of": [[TWO_CHAIN, (2, 3)]], "is_solution": [[TWO, TWO_CHAIN, (2, 3)]], "solved": [[TWO]],
        "meeting": [[TWO, TWO_CHAIN, (2, 3), "aA", ""], [TWO, TWO_CHAIN, (2, 3), "a", "a"]],
    },
    "automata": {
        "is_machine": [[FREE_MACHINE]], "accepts": [[FREE_MACHINE, "a"]], "least": [[FREE_MACHINE]],
        "avoiding": [[1, ["aA", "Aa"]]], "normal_machine": [[1, SYSTEM]],
    },
    "growth": {
        "counts": [[FREE_MACHINE, 3]], "total": [[FREE_MACHINE]], "circle": [[FREE_MACHINE]], "word_at": [[FREE_MACHINE, 3]],
        "index_of": [[FREE_MACHINE, "aa"]], "first_words": [[FREE_MACHINE, 3], [FREE_MACHINE, 0]],
    },
    "subgroups": {
        "centre": [[SIX_GROUP]], "class_of": [[SIX_GROUP, 1]], "classes": [[SIX_GROUP]],
        "generated": [[SIX_GROUP, [0, 1, 2]], [SIX_GROUP, [0]], [SIX_GROUP, [4, 4, 1]]],
        "is_subgroup": [[SIX_GROUP, [0, 1, 2]]], "is_normal": [[SIX_GROUP, [0, 1, 2]]],
        "right_cosets": [[SIX_GROUP, [0, 1, 2]], [SIX_GROUP, [0]]], "quotient": [[SIX_GROUP, [0, 1, 2]]],
        "extended": [[SIX_GROUP, SIX_GROUP, [1, 3]], [THREE_GROUP, THREE_GROUP, [0]]],
    },
    "conjugates": {
        "conjugated": [["abA", "a"]], "class_word": [["baBB"]], "free_conjugate": [["ab", "ba"]],
        "free_conjugator": [["ab", "ba"]], "cycle_type": [[((1, 0, 2),), "a"]],
        "find_conjugator": [[1, SYSTEM, "a", "A", 1]], "class_of": [[1, SYSTEM, "a"]],
    },
    "maps": {
        "check_map": [[GRID, GRID, ("b", "a")]], "image": [[GRID, GRID, ("b", "a"), "ab"]], "is_right": [[GRID, GRID, SWAP]],
        "carried": [[GRID, GRID, SWAP, "ba", WALK], [GRID, GRID, SWAP, "abAB", [("take", 0, 0, 1)]], [GRID, GRID, SWAP, "", []]],
        "joined": [[GRID, GRID, GRID, SWAP, SWAP], [CUBE, CUBE, CUBE, (("",), ([],)), (("a",), ([("take", 0, 0, 1)],))]],
    },
    "changes": {
        "with_relator": [[TWO, "aaaa", [("take", 0, 0, 1), ("take", 0, 0, 1)]]],
        "without_relator": [[(1, ("aa", "aa")), 0, [("take", 0, 0, 1)]]], "with_generator": [[GRID, "ab"], [CUBE, ""]],
        "without_generator": [[CUBE_OF_TWO, 1]],
    },
    "decide": {
        "decide": [[GRID, "ba", "ab"], [GRID, "aA", ""], [GRID, "a", "b"], [GRID, "a", "a"]],
        "is_answer": [[GRID, "ba", "ab", ("equal", (), WALK)]], "shows": [[("equal", (), WALK)]],
    },
    "certificates": {
        "is_walk": [[GRID, (), "ba", "ab", WALK]], "is_sound": [[GRID, GRID_CHAIN]],
        "images_differ": [[GRID, "a", "b", ((1, 0), (0, 1))]], "weights_differ": [[GRID, "a", "b", (0, (1, 0))]],
        "are_different": [[TWO, ["a", ""], ((1, 0),)]], "is_solution": [[TWO, TWO_CHAIN, (2, 3)]],
        "solution_differs": [[TWO, "a", "", TWO_CHAIN, (2, 3)]], "shown": [[GRID, "ba", "ab", ("equal", (), WALK)]],
    },
    "lines": {
        "words_of": [["word u ab"]], "is_name": [["u"]], "number_in": [["9"]], "text_of": [["ab"]], "word_in": [["ab"]],
    },
    "journal": {"attempt": [[Journal(), ["word u ab"]]], "resume": [["> word u ab\n< ok\n"]]},
}


def lists_in(value):
    """Return all lists in a value, and in the tuples and lists of it."""
    found = []
    if isinstance(value, list):
        found.append(value)
    if isinstance(value, (list, tuple)):
        for part in value:
            found += lists_in(part)
    return found


def called(function, arguments):
    """Return the result of a call; a dict at the end holds keyword arguments."""
    named = {}
    if isinstance(arguments[-1], dict):
        *arguments, named = arguments
    result = function(*arguments, **named)
    if hasattr(result, "__next__"):
        return list(result)
    if hasattr(result, "there"):
        return (result.before, result.behind, result.there, result.back)
    return result


class ArgumentsTest(unittest.TestCase):
    def assert_apart(self, values, where):
        """No list stands in two of the values, or twice in one."""
        lists = [found for value in values for found in lists_in(value)]
        self.assertEqual(len({id(found) for found in lists}), len(lists), where)

    def test_every_function_is_called(self):
        names = {file: {line.split("(")[0] for line in lines} for file, lines in FUNCTIONS.items()}
        self.assertEqual({file: set(calls) for file, calls in CALLS.items()}, names)

    def test_arguments_stay_and_lists_are_not_shared(self):
        for file, functions in CALLS.items():
            module = importlib.import_module("cayleywalk." + file)
            for name, calls in functions.items():
                for arguments in calls:
                    # Arguments of their own, in which no list stands twice.
                    arguments = [copy.deepcopy(part) if not_an_object(part) else part for part in arguments]
                    before = copy.deepcopy([part for part in arguments if not_an_object(part)])
                    results = [called(getattr(module, name), arguments) for _ in range(2)]
                    after = [part for part in arguments if not_an_object(part)]
                    self.assertEqual(after, before, name)
                    self.assert_apart([arguments] + results, (file, name))

    def test_results_are_the_same_again(self):
        for file, functions in CALLS.items():
            module = importlib.import_module("cayleywalk." + file)
            for name, calls in functions.items():
                if name in ("quotient", "resume"):
                    continue
                for arguments in calls:
                    first = called(getattr(module, name), arguments)
                    kept = copy.deepcopy(first)
                    for found in lists_in(first):
                        found.append("changed")
                    self.assertEqual(called(getattr(module, name), arguments), kept, (file, name))

    def test_integers_are_no_truth_values(self):
        for file, functions in CALLS.items():
            module = importlib.import_module("cayleywalk." + file)
            for name, calls in functions.items():
                for arguments in calls:
                    result = called(getattr(module, name), arguments)
                    if isinstance(result, (list, tuple)) and name not in ("least", "avoiding", "normal_machine"):
                        self.assertFalse(any(holds_truth(part) for part in result), name)


def not_an_object(value):
    return isinstance(value, (int, str, tuple, list, dict)) and not isinstance(value, (FiniteGroup, Journal))


def holds_truth(value):
    if isinstance(value, (list, tuple)):
        return any(holds_truth(part) for part in value)
    return isinstance(value, bool)


class ObjectsTest(unittest.TestCase):
    def assert_fresh(self, function, *arguments):
        """A changed list of a result changes no later result, and arguments stay."""
        kept_arguments = copy.deepcopy(arguments)
        first = function(*arguments)
        kept = copy.deepcopy(first)
        for found in lists_in(first):
            found.append("changed")
        self.assertEqual(function(*arguments), kept)
        self.assertEqual(arguments, kept_arguments)

    def test_methods(self):
        change = without_generator(CUBE_OF_TWO, 1)
        desk, journal = Desk(), Journal()
        journal.answer("word u ab")
        enumeration = Enumeration(CUBE, ["aa"])
        enumeration.round()
        decider = Decider(GRID)
        for function, arguments in [
            (enumeration.table, ()), (enumeration.cosets_behind_filling, ()), (change.returning, ("b",)),
            (change.returning, ("a",)), (change.returning_behind, ("a",)), (change.pulled, ("b", "aa", [])),
            (change.pulled, ("bbb", "", [("take", 0, 0, 1), ("take", 0, 0, 1)])), (desk.names, ()),
            (desk.answers, (["word u ab", "show u"],)), (journal.lines, ()), (journal.record, ()), (decider.solution, ()),
            (decider.answer, ("ba", "ab")), (SIX_GROUP.product, (1, 3)), (SIX_GROUP.word, (1,)),
        ]:
            self.assert_fresh(function, *arguments)

    def test_arguments_of_objects(self):
        words = ["aa"]
        enumeration = Enumeration(CUBE, words)
        words.append("a")
        enumeration.round()
        other = Enumeration(CUBE, ["aa"])
        other.round()
        self.assertEqual(enumeration.table(), other.table())
        self.assertEqual(words, ["aa", "a"])

    def test_changes_share_nothing(self):
        moves = [("take", 0, 0, 1)]
        presentation = (1, ("aa", "aa"))
        made = [
            with_relator(presentation, "aa", moves), with_relator(presentation, "aa", moves),
            without_relator(presentation, 0, moves), without_relator(presentation, 0, moves),
            with_generator(presentation, "a"), with_generator(presentation, "a"),
        ]
        lists = [moves] + [found for change in made for found in lists_in((change.there, change.back))]
        self.assertEqual(len({id(found) for found in lists}), len(lists))

    def test_all_classes_are_looked_at(self):
        self.assertEqual(
            sorted(name for classes in CLASSES.values() for name in classes),
            ["Change", "Decider", "Desk", "Enumeration", "FiniteGroup", "Journal"],
        )


class ErrorsTest(unittest.TestCase):
    def test_every_error_is_below_the_base(self):
        module = importlib.import_module("cayleywalk.errors")
        found = [value for value in vars(module).values() if isinstance(value, type) and value is not CayleyError]
        self.assertEqual(len(found), 21)
        for error in found:
            self.assertEqual(error.__bases__, (CayleyError,))

    def test_a_journal_goes_on_behind_errors(self):
        journal = Journal()
        self.assertEqual(attempt(journal, ["power u u 99"]), (["unknown u"], "> power u u 99\n< unknown u\n"))
        self.assertEqual(resume(journal.record()).record(), "")


if __name__ == "__main__":
    unittest.main()
