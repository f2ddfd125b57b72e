"""The names and arguments of the interface, in the files under which it lists them."""

import importlib
import inspect
import unittest

FUNCTIONS = {
    "letters": [
        "letters_of(g)", "inverse_letter(letter)", "rank_of(letter)", "shortlex_key(word)", "is_word(g, text)",
        "check_word(g, text)",
    ],
    "words": [
        "inverse(word)", "reduced(word)", "is_reduced(word)", "product(one, other)", "power(word, exponent)",
        "comes_before(one, other)", "in_order(words)", "core_of(word)", "rotations(word)", "least_rotation(word)",
        "root_of(word)", "commute(one, other)", "reduced_words(g, length)",
    ],
    "presentations": [
        "is_presentation(value)", "check_presentation(presentation)", "relator(presentation, k, sign)",
    ],
    "moves": [
        "moved(presentation, word, move)", "undoing(presentation, word, move)", "shorters(presentation, word)",
    ],
    "derive": [
        "walked(presentation, word, moves)", "is_derivation(presentation, start, end, moves)",
        "undone(presentation, word, moves)", "inverted(presentation, word, moves)", "shifted(moves, by)", "cuts(word)",
        "free_derivation(presentation, start, end)",
    ],
    "images": [
        "is_permutation(entries)", "compose(one, other)", "inverse_of(permutation)", "cycles_of(permutation)",
        "order_of(permutation)", "sign_of(permutation)", "check_images(g, images)", "permutation_of(images, word)",
        "satisfies(presentation, images)", "tells_apart(presentation, images, one, other)", "orbits_of(images)",
        "group_of(images)",
    ],
    "search": [
        "all_images(presentation, degree)", "first_images(presentation, one, other, *, most)",
        "count_images(presentation, degree)",
    ],
    "lattice": [
        "diagonal_form(rows, columns)", "is_diagonal_form(rows, columns, left, diagonal, right)", "determinant(rows)",
    ],
    "weights": [
        "sums_of(g, word)", "weight_of(weights, word)", "fits(presentation, weights)",
        "weights_apart(presentation, one, other)", "combination(presentation, one, other)", "invariants(presentation)",
    ],
    "tables": [
        "check_table(table, generators)", "is_whole(table)", "is_joined(table)", "led(table, start, word)",
        "standard(table)", "covering(table, other)", "representatives(table)", "circle_words(table)",
        "fits(presentation, words, table)",
    ],
    "cosets": [
        "coset_table(presentation, words, *, limit=200)", "index_of(presentation, words, *, limit=200)",
        "is_member(presentation, words, word, *, limit=200)",
    ],
    "graphs": [
        "is_graph(g, graph)", "read_from(g, graph, vertex, word)", "standard(g, graph)", "based(g, graph, vertex)",
        "is_full(g, graph)", "filled(g, graph)",
    ],
    "folding": [
        "folded(g, words)", "rank_of_graph(g, graph)", "index_of_graph(g, graph)", "basis_of(g, graph)",
        "meet(g, one, other)", "is_normal(g, graph)",
    ],
    "members": [
        "contains(g, graph, word)", "expression(g, words, word)", "is_expression(g, words, word, pairs)",
        "told_apart(g, words, word)",
    ],
    "rules": [
        "check_system(gens, system)", "free_rules(gens)", "overlaps(gens, system)", "results(gens, system, overlap)",
    ],
    "rewrite": [
        "normal_form(gens, system, word)", "trace(gens, system, word)", "is_irreducible(gens, system, word)",
        "applied(gens, system, word, place, index)", "first_conflict(gens, system)", "is_complete(gens, system)",
        "tidied(gens, system)",
    ],
    "backed": [
        "moved_in(presentation, chain, word, move)", "walked_in(presentation, chain, word, moves)",
        "is_walk(presentation, chain, start, end, moves)", "first_fault(presentation, chain)",
        "unfolded(presentation, chain, word, moves)",
    ],
    "solve": [
        "system_of(chain, kept)", "is_solution(presentation, chain, kept)", "solved(presentation)",
        "meeting(presentation, chain, kept, one, other)",
    ],
    "automata": [
        "is_machine(machine)", "accepts(machine, word)", "least(machine)", "avoiding(g, words)",
        "normal_machine(g, system)",
    ],
    "growth": [
        "counts(machine, n)", "total(machine)", "circle(machine)", "word_at(machine, index)",
        "index_of(machine, word)", "first_words(machine, count)",
    ],
    # The interface calls the second argument of two of these `elements`, which LANGUAGE.md (L17) forbids as a name.
    "subgroups": [
        "centre(group)", "class_of(group, x)", "classes(group)", "generated(group, members)",
        "is_subgroup(group, members)", "is_normal(group, subgroup)", "right_cosets(group, subgroup)",
        "quotient(group, subgroup)", "extended(group, other, images)",
    ],
    "conjugates": [
        "conjugated(word, by)", "class_word(word)", "free_conjugate(one, other)", "free_conjugator(one, other)",
        "cycle_type(images, word)", "find_conjugator(g, system, one, other, length)", "class_of(g, system, word)",
    ],
    "maps": [
        "check_map(source, target, words)", "image(source, target, words, word)", "is_right(source, target, backed)",
        "carried(source, target, backed, word, moves)", "joined(source, middle, target, one, other)",
    ],
    "changes": [
        "with_relator(presentation, word, moves)", "without_relator(presentation, k, moves)",
        "with_generator(presentation, word)", "without_generator(presentation, k)",
    ],
    "decide": [
        "decide(presentation, one, other)", "is_answer(presentation, one, other, answer)", "shows(answer)",
    ],
    "certificates": [
        "is_walk(presentation, chain, start, end, moves)", "is_sound(presentation, chain)",
        "images_differ(presentation, one, other, images)", "weights_differ(presentation, one, other, weights)",
        "are_different(presentation, words, images)", "is_solution(presentation, chain, kept)",
        "solution_differs(presentation, one, other, chain, kept)", "shown(presentation, one, other, answer)",
    ],
    "lines": ["words_of(line)", "is_name(word)", "number_in(word)", "text_of(word)", "word_in(text)"],
    "journal": ["attempt(journal, lines, *, keep=False)", "resume(text)"],
}

CLASSES = {
    "cosets": {
        "Enumeration": [
            "__init__(self, presentation, words)", "round(self)", "table(self)", "cosets_behind_filling(self)",
        ],
    },
    "elements": {
        "FiniteGroup": [
            "__init__(self, presentation)", "__len__(self)", "element(self, word)", "word(self, x)",
            "product(self, x, y)", "inverse(self, x)", "power(self, x, exponent)", "order(self, x)",
            "commute(self, x, y)",
        ],
    },
    "changes": {
        "Change": ["returning(self, letter)", "returning_behind(self, letter)", "pulled(self, start, end, moves)"],
    },
    "decide": {
        "Decider": [
            "__init__(self, presentation)", "answer(self, one, other)", "solution(self)", "__len__(self)",
            "__iter__(self)",
        ],
    },
    "desk": {
        "Desk": ["__init__(self)", "answer(self, line)", "answers(self, lines)", "names(self)", "thing(self, name)"],
    },
    "journal": {
        "Journal": [
            "__init__(self)", "answer(self, line)", "record(self)", "lines(self)", "keep(self)", "__enter__(self)",
            "__exit__(self, kind, value, trace)",
        ],
    },
}


class InterfaceTest(unittest.TestCase):
    def test_functions(self):
        for file, lines in FUNCTIONS.items():
            module = importlib.import_module("cayleywalk." + file)
            for line in lines:
                function = getattr(module, line.split("(")[0])
                self.assertEqual(function.__name__ + str(inspect.signature(function)), line)
                self.assertEqual(function.__module__, "cayleywalk." + file)

    def test_classes(self):
        for file, classes in CLASSES.items():
            module = importlib.import_module("cayleywalk." + file)
            for name, lines in classes.items():
                made = getattr(module, name)
                self.assertEqual(made.__module__, "cayleywalk." + file)
                for line in lines:
                    method = vars(made)[line.split("(")[0]]
                    self.assertEqual(method.__name__ + str(inspect.signature(method)), line)


if __name__ == "__main__":
    unittest.main()
