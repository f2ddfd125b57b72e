"""Promises [281] to [283]: the desk."""

import unittest

from cayleywalk.desk import Desk
from desk_samples import PERCENT, TABLE, PlainDesk, some_sessions

START = [
    "group g 2 abAB", "group h 2 aaa bb abab", "group k 1 aaaa", "group f 1", "group trivial 1 a", "group i 2 aa bb",
    "word e -", "word u ab", "word v ba", "word a a", "word b b", "word c c", "word long " + "ab" * 30, "word n aAb",
]


def started():
    desk = Desk()
    assert desk.answers(START) == ["ok"] * len(START)
    return desk


def state_of(desk):
    return {name: desk.thing(name) for name in desk.names()}


class DeskCase(unittest.TestCase):
    def assert_answers(self, pairs):
        """Look at answers, each of a desk of its own that has the things of START."""
        for line, answer in pairs:
            self.assertEqual(started().answer(line), answer, line)

    def assert_put(self, line, answer, name, thing):
        desk = started()
        before = state_of(desk)
        self.assertEqual(desk.answer(line), answer, line)
        before[name] = thing
        self.assertEqual(state_of(desk), before)


class CommandsTest(DeskCase):
    def test_groups_and_words(self):
        self.assert_put("group x 3 abC c", "ok", "x", (3, ("abC", "c")))
        self.assert_put("group x 3", "ok", "x", (3, ()))
        self.assert_put("group u 2 ab", "ok", "u", (2, ("ab",)))
        self.assert_put("group g 1 aA aA", "ok", "g", (1, ("aA", "aA")))
        self.assert_put("group x 2 " + " ".join(["ab"] * 8), "ok", "x", (2, ("ab",) * 8))
        self.assert_put("word x abC", "ok", "x", "abC")
        self.assert_put("word x -", "ok", "x", "")
        self.assert_put("word g aA", "ok", "g", "aA")
        self.assert_put("word x " + "a" * 60, "ok", "x", "a" * 60)

    def test_drop(self):
        for name in ("g", "u", "e"):
            desk = started()
            before = state_of(desk)
            self.assertEqual(desk.answer("drop " + name), "ok")
            del before[name]
            self.assertEqual(state_of(desk), before)
            self.assertIsNone(desk.thing(name))
            self.assertEqual(desk.answer("drop " + name), "unknown " + name)
            self.assertEqual(desk.answer("word " + name + " a"), "ok")

    def test_show(self):
        self.assert_answers([
            ("show g", "2 abAB"), ("show h", "2 aaa bb abab"), ("show f", "1"), ("show u", "ab"), ("show e", "-"),
            ("show long", "ab" * 30), ("show n", "aAb"),
        ])

    def test_new_words(self):
        self.assert_put("inverse x u", "BA", "x", "BA")
        self.assert_put("inverse e e", "-", "e", "")
        self.assert_put("inverse n n", "BaA", "n", "BaA")
        self.assert_put("reduce x n", "b", "x", "b")
        self.assert_put("reduce g e", "-", "g", "")
        self.assert_put("product x u v", "abba", "x", "abba")
        self.assert_put("product u u u", "abab", "u", "abab")
        self.assert_put("product x e e", "-", "x", "")
        self.assert_put("power x u 3", "ababab", "x", "ababab")
        self.assert_put("power x u 0", "-", "x", "")
        self.assert_put("power x a 20", "a" * 20, "x", "a" * 20)
        self.assert_put("root x long", "30", "x", "ab")
        self.assert_put("root g u", "1", "g", "ab")

    def test_words_told(self):
        self.assert_answers([
            ("core u", "- ab"), ("core e", "- -"), ("core n", "- b"), ("commute u v", "no"), ("commute u long", "yes"),
            ("commute u e", "yes"), ("sums g u", "1 1"), ("sums k a", "1"), ("sums g e", "0 0"), ("sums h n", "0 1"),
            ("invariants g", "0 0"), ("invariants h", "2"), ("invariants trivial", "empty"), ("invariants f", "0"),
            ("invariants k", "4"), ("invariants i", "2 2"),
        ])
        desk = started()
        desk.answer("word x abaBA")
        self.assertEqual(desk.answer("core x"), "ab a")

    def test_telling_apart(self):
        self.assert_answers([
            ("weights g u v", "no"), ("weights g u a", "yes"), ("weights k a e", "yes"), ("weights trivial a e", "no"),
            ("count k 1", "1"), ("count k 2", "2"), ("count k 4", "16"), ("count f 3", "6"), ("count g 1", "1"),
            ("images i u v 3", "0,2,1 1,0,2"), ("images i u v 2", "no"), ("images k a e 2", "1,0"), ("images k a e 1", "no"),
            ("images g u v 4", "no"), ("images f a e 2", "1,0"),
            ("decide g u v", "same equal"), ("decide g u a", "other weights"), ("decide i u v", "other images"),
            ("decide h u u", "same equal"), ("decide k a e", "other weights"),
        ])
        desk = started()
        desk.answers(["group d 2 aaaaa bb abab", "group o 2 abaBAB", "word p aba", "word q bab"])
        self.assertEqual(desk.answer("decide d a e"), "other system")
        self.assertEqual(desk.answer("decide o p q"), "open open")

    def test_subgroups(self):
        self.assert_answers([
            ("index h", "6"), ("index h b", "3"), ("index h a", "2"), ("index h a b", "1"), ("index g", "open"),
            ("index g a b", "1"), ("index trivial", "1"), ("index k a", "1"), ("index g a", "open"), ("index f", "open"),
            ("member h u", "no"), ("member h u a b", "yes"), ("member h e", "yes"), ("member h a b", "no"),
            ("member g u", "open"), ("member g u a b", "yes"), ("member h n b", "yes"),
            ("rank 2 u v", "2"), ("rank 2", "0"), ("rank 1", "0"), ("rank 3 a b c", "3"), ("rank 2 u long", "1"),
            ("rank 2 e", "0"), ("rank 2 u u u u u u u u", "1"),
            ("inside 2 u", "no"), ("inside 2 e", "yes"), ("inside 2 long u", "yes"), ("inside 2 u long", "no"),
            ("inside 2 u a b", "yes"), ("inside 3 c a b", "no"), ("inside 1 a a", "yes"),
        ])


class FaultsTest(DeskCase):
    def assert_fault(self, line, answer):
        desk = started()
        before = state_of(desk)
        self.assertEqual(desk.answer(line), answer, line)
        self.assertEqual(state_of(desk), before)

    def test_bad_lines(self):
        for line in [
            "", " ", " show g", "show g ", "show  g", "show\tg", "show g\n", "show" + PERCENT, "show " + PERCENT, "show \u00e4",
            "names", "Show g", "SHOW g", "-", "groups x 2", "g", "7",
        ]:
            self.assert_fault(line, "bad")

    def test_numbers_of_words(self):
        for command, (fixed, more) in TABLE.items():
            names = {"N": "x", "G": "g", "W": "u", "?": "g", "X": "2", "T": "ab"}
            right = [names[kind] for kind in fixed]
            for words in [right[:k] for k in range(len(right))] + ([] if more else [right + ["u"]]):
                self.assert_fault(" ".join([command] + words), "bad")
            self.assertNotEqual(started().answer(" ".join([command] + right)), "bad")
            if more:
                self.assertNotEqual(started().answer(" ".join([command] + right + [names[more]] * 5)), "bad")

    def test_words_that_must_be_names_or_numbers(self):
        for command, (fixed, more) in TABLE.items():
            names = {"N": "x", "G": "none", "W": "none", "?": "none", "X": "2", "T": "zz"}
            kinds = fixed + more
            for at, kind in enumerate(kinds):
                wrong = ["G", "a1", "-", "abcdefghijklm", "aB", "7"]
                if kind == "X":
                    wrong = ["-1", "00", "01", "100", "x", "2x", "+2", "-"]
                if kind == "T":
                    continue
                for word in wrong:
                    words = [names[other] for other in kinds[:at]] + [word] + [names[other] for other in kinds[at + 1:]]
                    self.assert_fault(" ".join([command] + words), "bad")

    def test_unknown_and_kind(self):
        for line, answer in [
            ("show none", "unknown none"), ("drop none", "unknown none"), ("inverse x none", "unknown none"),
            ("inverse none none", "unknown none"), ("product x none nothing", "unknown none"),
            ("product x u none", "unknown none"), ("product x g none", "kind g"), ("product x none g", "unknown none"),
            ("product x u g", "kind g"), ("core g", "kind g"), ("sums u u", "kind u"), ("sums u g", "kind u"),
            ("sums g h", "kind h"), ("sums none g", "unknown none"), ("invariants u", "kind u"), ("weights g u h", "kind h"),
            ("weights u none none", "kind u"), ("images g none h 99", "unknown none"), ("images g h none 99", "kind h"),
            ("decide none u v", "unknown none"), ("index g u none", "unknown none"), ("index g u h none", "kind h"),
            ("index u", "kind u"), ("member g u none h", "unknown none"), ("member g h none", "kind h"),
            ("rank 0 none", "unknown none"), ("rank 99 u g", "kind g"), ("inside 0 none", "unknown none"),
            ("inside 2 u none g", "unknown none"), ("inside 2 g none", "kind g"), ("power x g 99", "kind g"),
            ("root x none", "unknown none"), ("commute u none", "unknown none"), ("count u 9", "kind u"),
            ("count none 9", "unknown none"), ("drop x", "unknown x"), ("reduce x x", "unknown x"),
        ]:
            self.assert_fault(line, answer)

    def test_refused(self):
        for line in [
            "group x 0", "group x 4", "group x 99 ab", "group x 1 b", "group x 2 c", "group x 2 ab -", "group x 2 x",
            "group x 2 " + "a" * 21, "group x 2 " + " ".join(["ab"] * 9), "group x 2 a-", "group g 4 abAB", "group x 2 ab A7",
            "word x d", "word x a-b", "word x --", "word x " + "a" * 61, "word u x", "word g d", "word x 7", "word x aX",
            "product x long u", "product x long long", "power x long 2", "power x u 21", "power x u 99", "power x long 20",
            "root x e", "sums g c", "sums k u", "weights k u a", "weights g c a", "weights g a c", "count g 0", "count g 5",
            "count g 99", "images g u v 0", "images g u v 5", "images k u a 2", "decide k u a", "decide g c a",
            "index k u", "index g c", "member k u", "member k a u", "member g a c", "rank 0", "rank 4", "rank 1 u", "rank 99 u",
            "rank 2 u u u u u u u u u", "inside 0 u", "inside 4 u", "inside 1 u", "inside 1 a u", "inside 2 c u",
            "inside 2 u a a a a a a a a a", "rank 2 c",
        ]:
            self.assert_fault(line, "refused")

    def test_three_generators_have_fewer_degrees(self):
        desk = started()
        lines = ["group t 3", "count t 3", "count t 4", "images t a e 3", "images t a e 4"]
        self.assertEqual(desk.answers(lines), ["ok", "216", "refused", "1,0 0,1 0,1", "refused"])

    def test_long_words_are_never_kept(self):
        desk = started()
        self.assertEqual(desk.answer("product x long e"), "ab" * 30)
        self.assertEqual(desk.answer("product x long a"), "refused")
        self.assertEqual(desk.thing("x"), "ab" * 30)
        desk.answer("word m " + "A" * 60)
        self.assertEqual(desk.answer("inverse m m"), "a" * 60)
        self.assertEqual(desk.answer("power m m 2"), "refused")
        self.assertEqual(desk.answer("power m m 1"), "a" * 60)


class DesksTest(DeskCase):
    def test_new_desk(self):
        desk = Desk()
        self.assertEqual(desk.names(), [])
        self.assertIsNone(desk.thing("g"))
        self.assertEqual(desk.answers([]), [])
        self.assertEqual(desk.answer("show g"), "unknown g")

    def test_names_and_things(self):
        desk = started()
        self.assertEqual(desk.names(), sorted(line.split(" ")[1] for line in START))
        self.assertEqual(desk.thing("g"), (2, ("abAB",)))
        self.assertEqual(desk.thing("e"), "")
        self.assertIsNone(desk.thing("none"))
        self.assertIsNone(desk.thing(""))
        names = desk.names()
        names.append("zz")
        self.assertNotIn("zz", desk.names())

    def test_a_name_that_is_put_again(self):
        desk = Desk()
        lines = ["word x a", "group x 1 a", "core x", "word x b", "invariants x", "drop x", "show x", "group x 2", "show x"]
        answers = ["ok", "ok", "kind x", "ok", "kind x", "ok", "unknown x", "ok", "2"]
        self.assertEqual(desk.answers(lines), answers)

    def test_desks_apart(self):
        one, other = started(), Desk()
        self.assertEqual(other.names(), [])
        one.answer("drop g")
        self.assertEqual(other.answer("group g 1"), "ok")
        self.assertEqual(one.answer("show g"), "unknown g")

    def test_sessions_against_a_plain_desk(self):
        seen = {}
        for lines in some_sessions(251, 40, 60):
            desk, plain = Desk(), PlainDesk()
            for line in lines:
                before = state_of(desk)
                answer = desk.answer(line)
                self.assertEqual(answer, plain.answer(line), line)
                self.assertEqual(state_of(desk), plain.things)
                if answer.split(" ")[0] in ("bad", "unknown", "kind", "refused"):
                    self.assertEqual(state_of(desk), before)
                kind = answer.split(" ")[0]
                seen[line.split(" ")[0], kind if kind in ("bad", "unknown", "kind", "refused") else ""] = True
        self.assertEqual({command for command, kind in seen if kind == ""}, set(TABLE))
        self.assertGreater(len(seen), 70)

    def test_first_lines(self):
        for lines in some_sessions(252, 8, 40):
            answers = Desk().answers(lines)
            for k in range(0, len(lines), 7):
                self.assertEqual(Desk().answers(lines[:k]), answers[:k])
            desk = Desk()
            self.assertEqual(desk.answers(lines[:20]) + desk.answers(lines[20:]), answers)

    def test_answers_agree(self):
        desk = Desk()
        groups = ["2 abAB", "2 aa bb", "2 aaa bb abab", "2", "2 ab ba", "2 aaaaa bb abab", "2 abaBAB"]
        words = ["-", "a", "b", "ab", "ba", "aab", "ABab", "aba", "bab", "aaaaa"]
        seen = {}
        for group in groups:
            for one in words:
                for other in words:
                    desk.answers(["group g " + group, "word u " + one, "word v " + other])
                    weights = desk.answer("weights g u v")
                    shown = desk.answer("decide g u v").split(" ")[0]
                    images = [desk.answer("images g u v " + str(most)) for most in (1, 2, 3)]
                    if weights == "yes" or images != ["no"] * 3:
                        self.assertEqual(shown, "other")
                    if shown == "same":
                        self.assertEqual([weights] + images, ["no"] * 4)
                        self.assertEqual(desk.answer("images g u v 4"), "no")
                    seen[shown] = True
        self.assertEqual(set(seen), {"same", "other", "open"})


if __name__ == "__main__":
    unittest.main()
