"""The names and arguments of the interface, in the files under which it lists them."""

import importlib
import inspect
import unittest

FUNCTIONS = {
    "letters": [
        "letters_of(g)", "inverse_letter(letter)", "rank_of(letter)", "shortlex_key(word)", "is_word(g, text)",
        "check_word(g, text)",
    ],
    "words": [
        "inverse(word)", "reduced(word)", "is_reduced(word)", "product(one, other)", "power(word, exponent)",
        "comes_before(one, other)", "in_order(words)", "core_of(word)", "rotations(word)", "least_rotation(word)",
        "root_of(word)", "commute(one, other)", "reduced_words(g, length)",
    ],
    "presentations": [
        "is_presentation(value)", "check_presentation(presentation)", "relator(presentation, k, sign)",
    ],
    "moves": [
        "moved(presentation, word, move)", "undoing(presentation, word, move)", "shorters(presentation, word)",
    ],
    "derive": [
        "walked(presentation, word, moves)", "is_derivation(presentation, start, end, moves)",
        "undone(presentation, word, moves)", "inverted(presentation, word, moves)", "shifted(moves, by)", "cuts(word)",
        "free_derivation(presentation, start, end)",
    ],
    "images": [
        "is_permutation(entries)", "compose(one, other)", "inverse_of(permutation)", "cycles_of(permutation)",
        "order_of(permutation)", "sign_of(permutation)", "check_images(g, images)", "permutation_of(images, word)",
        "satisfies(presentation, images)", "tells_apart(presentation, images, one, other)", "orbits_of(images)",
        "group_of(images)",
    ],
    "search": [
        "all_images(presentation, degree)", "first_images(presentation, one, other, *, most)",
        "count_images(presentation, degree)",
    ],
    "lattice": [
        "diagonal_form(rows, columns)", "is_diagonal_form(rows, columns, left, diagonal, right)", "determinant(rows)",
    ],
    "weights": [
        "sums_of(g, word)", "weight_of(weights, word)", "fits(presentation, weights)",
        "weights_apart(presentation, one, other)", "combination(presentation, one, other)", "invariants(presentation)",
    ],
}


class InterfaceTest(unittest.TestCase):
    def test_functions(self):
        for file, lines in FUNCTIONS.items():
            module = importlib.import_module("cayleywalk." + file)
            for line in lines:
                function = getattr(module, line.split("(")[0])
                self.assertEqual(function.__name__ + str(inspect.signature(function)), line)
                self.assertEqual(function.__module__, "cayleywalk." + file)


if __name__ == "__main__":
    unittest.main()
