import unittest
from itertools import product
from random import Random

from halveline.desk import Desk
from halveline.errors import Lacking, LineError, NoName, NoRow, NoText
from things import BIG, drawn_heap, odd_things, slow_all_lines, slow_halves, slow_line, small_heaps

NO_NAMES = [
    "A", "Abc", "abC", "a1", "1", "a_b", "a-b", "abcdefghi", "a" * 20, "1,2", "a,b", "\u00e4", "a\u00df", "a\n", "\ta", "a.",
    "{", "`", "\u0430", "\u1d43", "heap\n", "none;",
]
NO_POINTS = [
    "1", "1,", ",1", ",", "1,2,3", "1;2", "01,2", "1,02", "-0,1", "+1,2", "1,+2", "1_0,2", "1.0,2", "x,y", "(1,2)", "1,2\n",
    "\t1,2", "\u0661,2", "1,\u00b2", "--1,2", "1,-", f"{BIG + 1},0", f"0,{-BIG - 1}", "True,1", "a",
]


def text_of(heap):
    return " ".join(f"{x},{y}" for x, y in heap)


class Talk(unittest.TestCase):
    def setUp(self):
        self.desk = Desk()

    def say(self, row, answer):
        told = self.desk.say(row)
        self.assertEqual(told, answer, row)
        self.assertIs(type(told), str)

    def refused(self, error, row):
        self.assertTrue(issubclass(error, LineError))
        with self.assertRaises(error, msg=repr(row)) as caught:
            self.desk.say(row)
        self.assertIs(type(caught.exception), error, row)


class Rows(Talk):
    def test_heap_and_show(self):
        for heap in small_heaps():
            self.say(" ".join(["heap a"] + [f"{x},{y}" for x, y in heap]), "ok")
            self.say("show a", text_of(heap))

    def test_a_heap_of_none(self):
        self.say("heap a", "ok")
        self.say("show a", "")
        self.say("line a a", "none")
        self.say("all a a", "none")
        self.say("count a a", "0")
        self.say("counts a 1 0 5", "0 0 0")
        self.say("add a 1,2", "ok")
        self.say("show a", "1,2")

    def test_a_heap_told_anew(self):
        self.say("heap a 1,2 3,4", "ok")
        self.say("heap b 9,9", "ok")
        self.say("heap a 5,5", "ok")
        self.say("show a", "5,5")
        self.say("heap a", "ok")
        self.say("show a", "")
        self.say("show b", "9,9")

    def test_add_drop_and_step(self):
        self.say("heap a 1,1 2,0 1,1", "ok")
        self.say("add a -7,3", "ok")
        self.say("add a 1,1", "ok")
        self.say("show a", "1,1 2,0 1,1 -7,3 1,1")
        self.say("drop a 1,1", "ok")
        self.say("show a", "2,0 1,1 -7,3 1,1")
        self.say("step a 1,1 0,0", "ok")
        self.say("show a", "2,0 0,0 -7,3 1,1")
        self.say("step a 2,0 2,0", "ok")
        self.say("step a -7,3 2,0", "ok")
        self.say("show a", "2,0 0,0 2,0 1,1")
        self.say("step a 2,0 8,8", "ok")
        self.say("show a", "8,8 0,0 2,0 1,1")
        for point in ("8,8", "0,0", "2,0", "1,1"):
            self.say(f"drop a {point}", "ok")
        self.say("show a", "")

    def test_line_all_and_count(self):
        draw = Random(101)
        pairs = [(drawn_heap(draw, draw.randint(0, 6), reach), drawn_heap(draw, draw.randint(0, 6), reach))
                 for reach in (1, 5, BIG) for k in range(15)]
        for one, other in pairs + list(product(small_heaps()[:8], repeat=2)):
            self.desk.say(" ".join(["heap", "one"] + [f"{x},{y}" for x, y in one]))
            self.desk.say(" ".join(["heap", "other"] + [f"{x},{y}" for x, y in other]))
            for first, second, heaps in (("one", "other", (one, other)), ("other", "one", (other, one)),
                                         ("one", "one", (one, one))):
                lines = slow_all_lines(*heaps)
                texts = [f"{a} {b} {c}" for a, b, c in lines]
                self.say(f"all {first} {second}", "; ".join(texts) or "none")
                self.say(f"count {first} {second}", str(len(lines)))
                self.assertIn(self.desk.say(f"line {first} {second}"), texts or ["none"])

    def test_known_answers(self):
        self.say("heap a 0,0 2,1", "ok")
        self.say("heap b 0,5", "ok")
        self.say("all a a", "1 -2 0")
        self.say("line a a", "1 -2 0")
        self.say("all a b", "1 0 0; 2 1 5")
        self.say("count a b", "2")
        self.say("line b b", "none")
        self.say("counts a 1 -2 0", "0 2 0")

    def test_counts(self):
        heap = [(0, 0), (2, 1), (4, 2), (1, 5), (1, 5), (-3, 0)]
        self.say(f"heap a {text_of(heap)}", "ok")
        self.say("counts a 1 -2 0", "3 3 0")
        for a, b, c in [slow_line(one, other) for one, other in product(heap, repeat=2) if one != other]:
            heights = [a * x + b * y for x, y in heap]
            sides = [sum(t < c for t in heights), heights.count(c), sum(t > c for t in heights)]
            self.say(f"counts a {a} {b} {c}", " ".join(map(str, sides)))
        self.say("counts a 0 1 -100", "0 0 6")
        self.say(f"counts a 1 0 {10 ** 90}", "6 0 0")
        self.assertTrue(slow_halves((1, -2, 0), heap))

    def test_names_of_one_to_eight_letters(self):
        names = ["a", "z", "az", "heap", "show", "line", "all", "count", "counts", "add", "drop", "step", "none", "ok",
                 "abcdefgh", "zzzzzzzz"]
        for at, name in enumerate(names):
            self.say(f"heap {name} {at},{at}", "ok")
        for at, name in enumerate(names):
            self.say(f"show {name}", f"{at},{at}")
            self.say(f"line {name} ok", "none" if at == names.index("ok") else "1 -1 0")

    def test_asked_again(self):
        self.say("heap a 0,0 4,1 2,2", "ok")
        self.say("heap b 1,1 5,0", "ok")
        for row in ("show a", "line a b", "all a b", "count b a", "counts b 1 0 1"):
            told = self.desk.say(row)
            self.say(row, told)

    def test_two_desks_beside_each_other(self):
        self.say("heap a 1,1", "ok")
        other = Desk()
        with self.assertRaises(Lacking):
            other.say("show a")
        other.say("heap a 2,2")
        self.say("show a", "1,1")

    def test_arguments_by_name(self):
        self.assertEqual(self.desk.say(row="heap a 1,1"), "ok")
        self.assertEqual(self.desk.say(row="show a"), "1,1")


class Standing(Talk):
    """Two heaps stand, and no row of the tests changes them."""

    def setUp(self):
        super().setUp()
        self.say("heap a 1,2 3,4 1,2", "ok")
        self.say("heap b 0,0", "ok")

    def tearDown(self):
        self.say("show a", "1,2 3,4 1,2")
        self.say("show b", "0,0")
        self.refused(Lacking, "show c")


class Refusals(Standing):
    def test_things_that_are_no_texts(self):
        for thing in odd_things() + [b"show a", ["show", "a"], ("show", "a"), ["show a"], bytearray(b"show a")]:
            self.refused(NoRow, thing)

    def test_other_words(self):
        for row in ("", " ", "a", "Show a", "SHOW a", "shows a", "sho a", "show\n", "show\na", "show\ta", "help", "a show",
                    "heaps a", "heap,a", "counts, a 1 0 0", "counta a b", "al a b", "lines a b", "step,", "\u0455how a"):
            self.refused(NoRow, row)

    def test_too_few_or_too_many_words(self):
        for word, many in (("add", 2), ("drop", 2), ("step", 3), ("show", 1), ("line", 2), ("all", 2), ("count", 2),
                           ("counts", 4)):
            for fill in ("a", "c", "1,2", "1", "?"):
                for count in range(9):
                    if count != many:
                        self.refused(NoRow, " ".join([word] + [fill] * count))
        self.refused(NoRow, "heap")
        self.refused(NoRow, "show a b")
        self.refused(NoRow, "show")

    def test_words_without_signs(self):
        for row in ("heap c 5,5 6,6", "add a 5,5", "drop a 1,2", "step a 1,2 5,5", "show a", "line a b", "all a b", "count a b",
                    "counts a 1 0 0", "heap c"):
            words = row.split(" ")
            self.refused(NoRow, row + " ")
            self.refused(NoRow, " " + row)
            for at in range(1, len(words)):
                self.refused(NoRow, " ".join(words[:at]) + "  " + " ".join(words[at:]))
                self.refused(NoRow, " ".join(words[:at] + [""] + words[at + 1:]))
        self.refused(NoRow, "show ")
        self.refused(NoRow, "heap ")
        self.refused(NoRow, "heap c ")
        self.refused(NoRow, "counts a 1 0 ")

    def test_words_that_are_no_names(self):
        for word in NO_NAMES:
            for row in (f"heap {word}", f"heap {word} 1,2", f"add {word} 1,2", f"drop {word} 1,2", f"step {word} 1,2 3,4",
                        f"show {word}", f"line {word} a", f"line a {word}", f"all {word} a", f"all a {word}",
                        f"count {word} a", f"count a {word}", f"line {word} {word}", f"counts {word} 1 0 0"):
                self.refused(NoName, row)

    def test_names_by_which_no_heap_stands(self):
        for row in ("add c 1,2", "drop c 1,2", "step c 1,2 3,4", "show c", "line c a", "line a c", "line c c", "all c a",
                    "all a c", "count c a", "count a c", "counts c 1 0 0", "show aa", "show abcdefgh"):
            self.refused(Lacking, row)

    def test_words_that_are_no_points(self):
        for word in NO_POINTS:
            for row in (f"heap c {word}", f"heap a 5,5 {word}", f"heap a {word} 5,5", f"add a {word}", f"drop a {word}",
                        f"step a {word} 3,4", f"step a 1,2 {word}"):
                self.refused(NoText, row)

    def test_numbers_that_are_no_lines_text(self):
        for words in ("0 0 0", "2 0 1", "2 4 6", "-1 0 0", "0 -1 0", "0 2 1", "-1 2 3", "1 0 x", "x y z", "01 0 0", "1 00 0",
                      "1 0 +5", "1 -0 5", "1 0 1.0", "1,0 0 0", "1 0 0\n", "a b c", "1 0 \u0661", "1_0 1 1"):
            self.refused(NoText, f"counts a {words}")

    def test_points_that_are_not_there(self):
        for row in ("drop a 2,1", "drop b 1,2", "step a 9,9 1,2", "step a 0,0 0,0", "step b 1,2 1,2", f"drop a {BIG},0"):
            self.refused(Lacking, row)


class TheFirstRefusalGoesFirst(Standing):
    def test_no_row_goes_ahead_of_all(self):
        for row in ("show A b", "add A", "step A x", "line A", "counts A 0 0", "show  A", "add c  x", "step c x ", "drop A x y",
                    "heap A ", " heap A x", "counts c 0 0 0 0", "nothing A", "nothing c x"):
            self.refused(NoRow, row)

    def test_no_name_goes_ahead_of_lacking_and_no_text(self):
        for row in ("line c A", "line A c", "all c A", "all A c", "count c A", "count A c", "add A x", "drop A x", "step A x y",
                    "heap A x", "counts A 0 0 0", "counts A x y z"):
            self.refused(NoName, row)

    def test_lacking_a_heap_goes_ahead_of_no_text(self):
        for row in ("add c x", "drop c x", "step c x y", "step c 1,2 y", "counts c 0 0 0", "counts c x y z"):
            self.refused(Lacking, row)

    def test_no_text_goes_ahead_of_lacking_a_point(self):
        for row in ("step a 9,9 x", "step a x 9,9", "step b 1,2 1,02"):
            self.refused(NoText, row)


if __name__ == "__main__":
    unittest.main()
