"""Rules as texts: how they are written, and which texts are refused."""

import inspect
import random
import unittest

from oneair import notes
from oneair.errors import BadNumber, BadRule, BadText
from oneair.notes import read_rule, written
from oneair.playing import play

TREES = [("tree", how, late) for how in ("plain", "skips") for late in ("waits", "joins")]
WAITS = [("waits", base) for base in (2, 3, 4)]


class Interface(unittest.TestCase):

    def test_defined_where_they_are_listed(self):
        for name, parameters in (("written", ["rule", "many"]), ("read_rule", ["text", "many"])):
            self.assertEqual(getattr(notes, name).__module__, "oneair.notes")
            self.assertEqual(list(inspect.signature(getattr(notes, name)).parameters), parameters)


class Written(unittest.TestCase):

    def test_each_rule(self):
        self.assertEqual(written(("turns",), 3), "turns")
        self.assertEqual(written(("rows", ("01", "10")), 2), "rows 01 10")
        self.assertEqual(written(("rows", ("1",)), 1), "rows 1")
        self.assertEqual(written(("rows", ("0" * 12,) * 8), 8), "rows" + " 000000000000" * 8)
        self.assertEqual(written(("tree", "plain", "waits"), 1), "tree plain waits")
        self.assertEqual(written(("tree", "skips", "joins"), 8), "tree skips joins")
        for base in (2, 3, 4):
            self.assertEqual(written(("waits", base), 5), f"waits {base}")

    def test_refused(self):
        for many in (0, 9, -1, True):
            self.assertRaises(BadNumber, written, ("walk",), many)
            self.assertRaises(BadNumber, written, ("turns",), many)
        for rule, why in ((("walk",), "rule"), (("turns", 1), "rule"), (("rows", ("1",)), "rows"),
                          (("rows", ("01", "1")), "rows"), (("tree", "x", "y"), "how"),
                          (("tree", "plain", "plain"), "late"), (("waits", 5), "base"),
                          (("waits", True), "base"), (("waits", "2"), "base")):
            with self.assertRaises(BadRule) as caught:
                written(rule, 2)
            self.assertEqual(caught.exception.why, why)


class ReadAgain(unittest.TestCase):

    def test_what_is_written_is_read_to_the_same_rule(self):
        chance = random.Random(51)
        for many in range(1, 9):
            rows = []
            for length in range(1, 13):
                rows.append(("rows", tuple("".join(chance.choice("01") for _ in range(length))
                                           for _ in range(many))))
            for rule in [("turns",)] + TREES + WAITS + rows:
                read = read_rule(written(rule, many), many)
                self.assertEqual(read, rule)
                self.assertEqual([type(part) for part in read], [type(part) for part in rule])
                play(read, many, {0: 0})


class Read(unittest.TestCase):

    def bad_text(self, *texts):
        for text in texts:
            for many in (1, 2, 8):
                with self.assertRaises(BadText, msg=repr(text)):
                    read_rule(text, many)

    def bad_rule(self, why, *texts, many=2):
        for text in texts:
            with self.assertRaises(BadRule, msg=repr(text)) as caught:
                read_rule(text, many)
            self.assertEqual(caught.exception.why, why, text)

    def test_each_rule(self):
        self.assertEqual(read_rule("turns", 1), ("turns",))
        self.assertEqual(read_rule("rows 01 10", 2), ("rows", ("01", "10")))
        self.assertEqual(read_rule("tree skips waits", 3), ("tree", "skips", "waits"))
        self.assertEqual(read_rule("waits 4", 8), ("waits", 4))

    def test_another_first_word(self):
        self.bad_text("", " ", "turn", "Turns", "turns,", "TURNS", "walk", "walk 2", "row 01 10",
                      "Rows 01 10", "rows01 10", "2", "01 10", "plain waits", "waits2", "wait 2",
                      " turns", " rows 01 10", " tree plain waits", " waits 2", "  waits 2",
                      "tree,plain,waits", "tree-plain-waits", "~", "!", "rows\\01")

    def test_another_count_of_words(self):
        self.bad_text("turns ", "turns turns", "turns 2", "turns  ",
                      "tree", "tree ", "tree plain", "tree waits", "tree plain waits waits", "tree x",
                      "tree plain waits ", "tree  plain waits", "tree plain  waits", "tree plain plain waits",
                      "waits", "waits 2 2", "waits 2 ", "waits  2", "waits 2 x", "waits  ")

    def test_an_empty_word_is_a_word(self):
        self.bad_rule("how", "tree  waits", "tree  ", "tree  x")
        self.bad_rule("late", "tree plain ", "tree skips ")
        self.bad_rule("rows", "rows ", "rows  ", "rows 01 10 ", "rows  01 10", "rows 01  10", "rows 01 ", "rows  01")
        self.bad_text("waits ")

    def test_a_base_that_is_no_number(self):
        self.bad_text("waits x", "waits two", "waits -2", "waits +2", "waits 2.", "waits 2.0", "waits 0x2",
                      "waits 2x", "waits x2", "waits 1e1", "waits _2", "waits 1_0", "waits ~", "waits -",
                      "waits II", "waits a2b", "waits 2a", "waits (2)")

    def test_a_base_with_a_needless_0(self):
        self.bad_text("waits 02", "waits 00", "waits 002", "waits 000", "waits 012", "waits 0002", "waits 01")

    def test_a_base_of_more_than_three_figures(self):
        self.bad_text("waits 1000", "waits 2000", "waits 0000", "waits 9999", "waits " + "1" * 40,
                      "waits " + "2" * 5000)

    def test_a_base_that_is_a_number(self):
        self.bad_rule("base", "waits 0", "waits 1", "waits 5", "waits 9", "waits 10", "waits 20",
                      "waits 99", "waits 100", "waits 200", "waits 999")

    def test_rows_that_cannot_be(self):
        self.bad_rule("rows", "rows", "rows 01", "rows 01 10 11", "rows 01 1", "rows 02 10", "rows x y",
                      "rows 0000000000000 1111111111111", "rows 01,10", "rows 0 10", "rows rows rows", "rows 2")
        self.bad_rule("rows", "rows", "rows ", "rows 1 1", many=1)
        self.assertEqual(read_rule("rows 000000000001", 1), ("rows", ("000000000001",)))

    def test_parts_of_trees_that_cannot_be(self):
        self.bad_rule("how", "tree x waits", "tree x y", "tree waits plain", "tree Plain waits", "tree 2 waits")
        self.bad_rule("late", "tree plain y", "tree skips plain", "tree plain Waits", "tree skips 2")

    def test_a_number_is_ahead_of_all_else(self):
        for many in (0, -1, 9, 100, True, False):
            for text in ("", "walk", "turns", "turns ", "waits 9", "waits x", "rows", "rows 1"):
                self.assertRaises(BadNumber, read_rule, text, many)

    def test_the_same_answer_in_any_order(self):
        texts = ["turns", "rows 01 10", "waits 2", "tree plain joins"]
        first = [read_rule(text, 2) for text in texts]
        self.assertEqual([read_rule(text, 2) for text in texts[::-1]], first[::-1])


if __name__ == "__main__":
    unittest.main()
