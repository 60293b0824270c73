"""What is judged: by which sets it takes longest, and by which a rule is sooner."""

import inspect
import itertools
import random
import unittest

from oneair import judging
from oneair.errors import BadNumber, BadRule
from oneair.judging import against, worst
from oneair.playing import play
from tests import model

TREES = [("tree", how, late) for how in ("plain", "skips") for late in ("waits", "joins")]
WAITS = [("waits", base) for base in (2, 3, 4)]
FOR_EVER = 10 ** 6


def all_sets(many, most):
    """Those of fewer ahead, then as tuples are."""
    return [group for size in range(1, most + 1)
            for group in itertools.combinations(range(many), size)]


def takes(rule, many, group):
    """How many moments it takes, by the model."""
    word, told, _ = model.run(rule, many, {number: 0 for number in group})
    return FOR_EVER if word == "forever" else len(told)


def some_rows(chance, many):
    length = chance.randint(1, 12)
    return ("rows", tuple("".join(chance.choice("01") for _ in range(length)) for _ in range(many)))


class Interface(unittest.TestCase):

    def test_defined_where_they_are_listed(self):
        for name, parameters in (("worst", ["rule", "many", "most"]),
                                 ("against", ["rule", "other", "many", "most"])):
            self.assertEqual(getattr(judging, name).__module__, "oneair.judging")
            self.assertEqual(list(inspect.signature(getattr(judging, name)).parameters), parameters)

    def test_kinds_of_values(self):
        answer = worst(("turns",), 3, 2)
        self.assertEqual([type(part) for part in answer], [str, int, tuple])
        self.assertIs(type(answer), tuple)
        answer = worst(("rows", ("0",)), 1, 1)
        self.assertEqual([type(part) for part in answer], [str, tuple])
        self.assertIs(type(answer), tuple)
        answer = against(("turns",), ("waits", 2), 3, 2)
        self.assertEqual([type(part) for part in answer], [tuple, tuple])
        self.assertIs(type(answer), tuple)


class Worst(unittest.TestCase):

    def test_one_station(self):
        for rule in [("turns",), ("rows", ("1",))] + TREES + WAITS:
            self.assertEqual(worst(rule, 1, 1), ("heard", 1, (0,)))
        self.assertEqual(worst(("rows", ("0001",)), 1, 1), ("heard", 4, (0,)))
        self.assertEqual(worst(("rows", ("000",)), 1, 1), ("forever", (0,)))

    def test_the_first_set_that_takes_so_long(self):
        # By turns all sets in which the last one is take as long; it alone is the first of them.
        for many in range(1, 9):
            for most in range(1, many + 1):
                self.assertEqual(worst(("turns",), many, most), ("heard", many, (many - 1,)))

    def test_more_than_so_many_do_not_count(self):
        for base, many in ((2, 3), (3, 4)):
            self.assertEqual(worst(("waits", base), many, 1), ("heard", 1, (0,)))
            self.assertEqual(worst(("waits", base), many, 2)[0], "heard")
        self.assertEqual(worst(("waits", 2), 3, 3), ("forever", (0, 1, 2)))
        self.assertEqual(worst(("waits", 3), 4, 3), ("forever", (0, 1, 3)))
        self.assertEqual(worst(("rows", ("1", "1")), 2, 1), ("heard", 1, (0,)))
        self.assertEqual(worst(("rows", ("1", "1")), 2, 2), ("forever", (0, 1)))

    def test_moments_until_all_are_heard(self):
        self.assertEqual(worst(("waits", 2), 2, 2), ("heard", 3, (0, 1)))
        self.assertEqual(worst(("waits", 4), 4, 2), ("heard", 5, (0, 3)))
        self.assertEqual(worst(("tree", "plain", "waits"), 8, 1), ("heard", 1, (0,)))
        # 6 and 7 of eight: noise, silent, noise, silent, noise, heard, heard; with skips two less.
        # So long it takes with 0 and 1, too: noise thrice in turn, and heard twice is 5.
        self.assertEqual(worst(("tree", "plain", "waits"), 8, 2), ("heard", 7, (6, 7)))
        self.assertEqual(worst(("tree", "skips", "waits"), 8, 2), ("heard", 5, (0, 1)))
        for rule in TREES:
            self.assertEqual(worst(rule, 8, 8), ("heard", 15, tuple(range(8))))

    def test_those_of_fewer_are_ahead(self):
        # 0, 1 and 2 are never alone together, nor are 2 and 3.
        rule = ("rows", ("110", "101", "011", "011"))
        self.assertEqual(worst(rule, 4, 3), ("forever", (2, 3)))
        self.assertEqual(worst(("rows", ("110", "101", "011", "000")), 4, 4), ("forever", (3,)))
        self.assertEqual(worst(("rows", ("110", "101", "011")), 3, 3), ("forever", (0, 1, 2)))

    def test_then_as_tuples_are(self):
        rule = ("rows", ("10", "01", "01", "10"))
        self.assertEqual(worst(rule, 4, 4), ("forever", (0, 3)))
        # 1 and 2 take as long as 0 and 2 do: 2 is heard at 4, when the other one is over.
        rule = ("rows", ("1010", "1001", "1000"))
        self.assertEqual(worst(rule, 3, 2), ("heard", 5, (0, 2)))

    def test_for_ever_is_ahead_of_any_number(self):
        late = "0" * 11 + "1"
        rule = ("rows", (late, "1" + "0" * 11, "1" + "0" * 11))
        self.assertEqual(worst(rule, 3, 1), ("heard", 12, (0,)))
        self.assertEqual(worst(rule, 3, 2), ("forever", (1, 2)))

    def test_beside_the_model(self):
        chance = random.Random(21)
        for many in range(1, 7):
            rows = [some_rows(chance, many) for _ in range(20)]
            for rule in [("turns",)] + TREES + WAITS + rows:
                for most in range(1, many + 1):
                    numbers = [(takes(rule, many, group), group) for group in all_sets(many, most)]
                    greatest = max(number for number, _ in numbers)
                    first = [group for number, group in numbers if number == greatest][0]
                    answer = ("heard", greatest, first)
                    if greatest == FOR_EVER:
                        answer = ("forever", first)
                    self.assertEqual(worst(rule, many, most), answer)

    def test_as_play_tells(self):
        for rule in TREES + [("turns",)]:
            word, moments, group = worst(rule, 7, 5)
            told = play(rule, 7, {number: 0 for number in group})
            self.assertEqual((told[0], len(told[1])), (word, moments))


class Against(unittest.TestCase):

    def test_a_rule_against_itself(self):
        rows = [("rows", ("0", "0", "0")), ("rows", ("110", "101", "011")), ("rows", ("1",) * 3)]
        for rule in [("turns",)] + TREES + WAITS + rows:
            for most in (1, 2, 3):
                self.assertEqual(against(rule, rule, 3, most), (None, None))

    def test_one_station(self):
        self.assertEqual(against(("turns",), ("waits", 2), 1, 1), (None, None))
        self.assertEqual(against(("turns",), ("rows", ("01",)), 1, 1), ((0,), None))
        self.assertEqual(against(("rows", ("01",)), ("turns",), 1, 1), (None, (0,)))

    def test_the_first_set_by_each(self):
        # Alone 1 is heard at once by waits, by turns a moment later; 0 and 1 take 3 and 2.
        self.assertEqual(against(("turns",), ("waits", 2), 2, 1), (None, (1,)))
        self.assertEqual(against(("turns",), ("waits", 2), 2, 2), ((0, 1), (1,)))
        self.assertEqual(against(("waits", 2), ("turns",), 2, 2), ((1,), (0, 1)))

    def test_as_many_moments_are_not_fewer(self):
        self.assertEqual(against(("rows", ("10", "01")), ("turns",), 2, 2), (None, None))
        self.assertEqual(against(("tree", "plain", "waits"), ("tree", "plain", "joins"), 8, 8), (None, None))
        self.assertEqual(against(("tree", "skips", "waits"), ("tree", "plain", "waits"), 4, 4), ((2, 3), None))

    def test_for_ever_is_more_than_any_number(self):
        never, late = ("rows", ("0", "0")), ("rows", ("0" * 11 + "1", "0" * 10 + "10"))
        self.assertEqual(against(never, late, 2, 2), (None, (0,)))
        self.assertEqual(against(late, never, 2, 2), ((0,), None))
        self.assertEqual(against(never, ("rows", ("00", "00")), 2, 2), (None, None))
        self.assertEqual(against(("rows", ("1", "1")), late, 2, 2), ((0,), (0, 1)))

    def test_beside_the_model(self):
        chance = random.Random(22)
        for _ in range(250):
            many = chance.randint(1, 6)
            most = chance.randint(1, many)
            rules = [("turns",), some_rows(chance, many), some_rows(chance, many)] + TREES + WAITS
            one, other = chance.choice(rules), chance.choice(rules)
            sooner = [group for group in all_sets(many, most)
                      if takes(one, many, group) < takes(other, many, group)]
            later = [group for group in all_sets(many, most)
                     if takes(one, many, group) > takes(other, many, group)]
            answer = (sooner[0] if sooner else None, later[0] if later else None)
            self.assertEqual(against(one, other, many, most), answer, (one, other, many, most))


class Refused(unittest.TestCase):

    def test_numbers_of_speakers(self):
        for many in range(1, 9):
            for most in (0, -1, many + 1, 9, 100, True, False, None):
                self.assertRaises(BadNumber, worst, ("turns",), many, most)
                self.assertRaises(BadNumber, against, ("turns",), ("turns",), many, most)
            self.assertEqual(worst(("turns",), many, many)[0], "heard")
            self.assertEqual(against(("turns",), ("turns",), many, 1), (None, None))

    def test_numbers_are_ahead_of_rules(self):
        for many, most in ((0, 1), (9, 1), (True, 1), (3, 0), (3, 4), (3, True)):
            self.assertRaises(BadNumber, worst, ("walk",), many, most)
            self.assertRaises(BadNumber, against, ("walk",), ("waits", 9), many, most)
            self.assertRaises(BadNumber, against, ("turns",), ("waits", 9), many, most)

    def test_rules(self):
        wrong = [(("walk",), "rule"), (("turns", 1), "rule"), (("rows", ("0", "1")), "rows"),
                 (("tree", "x", "y"), "how"), (("tree", "plain", "y"), "late"), (("waits", 5), "base")]
        good = ("turns",)
        for rule, why in wrong:
            for call in (lambda: worst(rule, 3, 2), lambda: against(rule, good, 3, 2),
                         lambda: against(good, rule, 3, 2), lambda: against(rule, ("waits", 1), 3, 2)):
                with self.assertRaises(BadRule) as caught:
                    call()
                self.assertEqual(caught.exception.why, why)

    def test_the_one_rule_is_ahead_of_the_other(self):
        for one, other, why in ((("waits", 5), ("walk",), "base"), (("walk",), ("waits", 5), "rule")):
            with self.assertRaises(BadRule) as caught:
                against(one, other, 2, 1)
            self.assertEqual(caught.exception.why, why)


class AskedAgain(unittest.TestCase):

    def test_the_same_answer_in_any_order(self):
        calls = [(worst, (rule, 4, most)) for rule in TREES + WAITS for most in (1, 2, 4)]
        calls += [(against, (("turns",), rule, 4, 3)) for rule in TREES + WAITS]
        first = [call(*told) for call, told in calls]
        again = [call(*told) for call, told in calls[::-1]]
        self.assertEqual(first, again[::-1])


if __name__ == "__main__":
    unittest.main()
