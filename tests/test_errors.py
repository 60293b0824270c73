"""The refusals: their classes and values, and which one is ahead of which."""

import unittest

from oneair import errors
from oneair.errors import AirError, BadNumber, BadPlan, BadRule, BadText, BadWakes
from oneair.playing import play, times
from oneair.stations import Station

WRONG_MANY = (0, -1, 9, 10, 100, True, False, None, "3")

# Of each sort of fault some rules for two stations.
WRONG_RULES = {
    "rule": [
        (), ("turn",), ("Turns",), ("",), ("turns", 2), ("turns", "rows"),
        ("rows",), ("rows", ("0", "1"), 1), ("rows", "0", "1"),
        ("tree",), ("tree", "plain"), ("tree", "plain", "waits", 2),
        ("waits",), ("waits", 2, 2), ("walk", 2), ("walk", "plain", "waits"), (2,),
    ],
    "rows": [
        ("rows", ()), ("rows", ("01",)), ("rows", ("01", "10", "11")),
        ("rows", ("", "")), ("rows", ("01", "")), ("rows", ("01", "1")), ("rows", ("0", "10")),
        ("rows", ("02", "10")), ("rows", ("01", "1 ")), ("rows", ("01", "1x")),
        ("rows", ("0" * 13, "1" * 13)), ("rows", ("0" * 12, "1" * 13)),
    ],
    "how": [
        ("tree", "", "waits"), ("tree", "waits", "plain"), ("tree", "Plain", "joins"),
        ("tree", "skip", "joins"), ("tree", "plain ", "late"),
    ],
    "late": [
        ("tree", "plain", ""), ("tree", "skips", "plain"), ("tree", "skips", "wait"),
        ("tree", "plain", "Joins"),
    ],
    "base": [
        ("waits", 1), ("waits", 0), ("waits", -2), ("waits", 5), ("waits", 100),
        ("waits", True), ("waits", False), ("waits", "2"), ("waits", None),
    ],
}

GOOD_RULES = [
    ("turns",), ("rows", ("0", "0")), ("rows", ("0" * 12, "1" * 12)),
    ("tree", "plain", "waits"), ("tree", "plain", "joins"),
    ("tree", "skips", "waits"), ("tree", "skips", "joins"),
    ("waits", 2), ("waits", 3), ("waits", 4),
]

# Wakes of two stations, and the number that is refused.
WRONG_WAKES = [
    ({2: 0}, 2), ({-1: 0}, -1), ({9: 0}, 9), ({0: 41}, 0), ({1: -1}, 1),
    ({0: 0, 1: 41}, 1), ({1: 41, 0: -1}, 0), ({5: 0, 3: 0, 4: 0}, 3),
    ({7: 0, 1: 99}, 1), ({0: 41, -3: 7, -2: 7}, -3), ({2: 5, 0: 40}, 2),
    ({0: True}, 0), ({1: False}, 1), ({0: None}, 0), ({1: "0"}, 1),
]


def calls(rule, many, wakes):
    """All calls that take a rule, a number of stations and perhaps wakes."""
    return [lambda: play(rule, many, wakes), lambda: times(rule, many, wakes)]


class Classes(unittest.TestCase):

    def test_all_are_refusals_and_value_errors(self):
        self.assertEqual(AirError.__bases__, (ValueError,))
        for kind in (BadNumber, BadRule, BadWakes, BadPlan, BadText):
            self.assertEqual(kind.__bases__, (AirError,))
            self.assertEqual(kind.__module__, "oneair.errors")

    def test_values_are_set_as_an_object_is_created(self):
        self.assertEqual(BadRule("how").why, "how")
        self.assertEqual(BadPlan("deep").why, "deep")
        self.assertEqual(BadWakes(3).number, 3)
        for error in (BadRule("how"), BadPlan("deep"), BadWakes(3), BadNumber(), BadText()):
            self.assertIsInstance(str(error), str)

    def test_no_other_classes_stand_there(self):
        names = {name for name in vars(errors) if not name.startswith("_")}
        self.assertEqual(names, {"AirError", "BadNumber", "BadRule", "BadWakes", "BadPlan", "BadText"})


class Numbers(unittest.TestCase):

    def test_numbers_of_stations_that_cannot_be(self):
        for many in WRONG_MANY:
            for call in calls(("turns",), many, {}):
                self.assertRaises(BadNumber, call)
            self.assertRaises(BadNumber, Station, ("turns",), many, 0)

    def test_numbers_of_stations_from_one_to_eight(self):
        for many in range(1, 9):
            self.assertEqual(play(("turns",), many, {}), ("heard", [], 0))
            Station(("turns",), many, many - 1)

    def test_a_number_is_refused_ahead_of_all_else(self):
        for many in WRONG_MANY:
            for rule in WRONG_RULES["rule"] + WRONG_RULES["base"] + WRONG_RULES["rows"]:
                for call in calls(rule, many, {-1: 99}):
                    self.assertRaises(BadNumber, call)
                self.assertRaises(BadNumber, Station, rule, many, 0)
            for call in calls(("turns",), many, {-1: 99}):
                self.assertRaises(BadNumber, call)


class Rules(unittest.TestCase):

    def refused(self, why, call):
        with self.assertRaises(BadRule) as caught:
            call()
        self.assertEqual(caught.exception.why, why)

    def test_rules_that_are_none(self):
        for why, rules in WRONG_RULES.items():
            for rule in rules:
                with self.subTest(rule=rule):
                    for call in calls(rule, 2, {}):
                        self.refused(why, call)
                    self.refused(why, lambda: Station(rule, 2, 1))

    def test_rules_that_are(self):
        for rule in GOOD_RULES:
            with self.subTest(rule=rule):
                self.assertEqual(play(rule, 2, {}), ("heard", [], 0))
                Station(rule, 2, 1)

    def test_rows_are_as_many_as_stations(self):
        for many in range(1, 9):
            for rows in range(0, 10):
                rule = ("rows", ("1",) * rows)
                if rows == many:
                    self.assertEqual(play(rule, many, {}), ("heard", [], 0))
                else:
                    self.refused("rows", lambda: play(rule, many, {}))

    def test_how_is_ahead_of_late(self):
        self.refused("how", lambda: play(("tree", "x", "y"), 2, {}))
        self.refused("how", lambda: play(("tree", "joins", "skips"), 2, {}))

    def test_count_of_parts_is_ahead_of_what_they_are(self):
        self.refused("rule", lambda: play(("tree", "x"), 2, {}))
        self.refused("rule", lambda: play(("tree", "x", "y", "z"), 2, {}))
        self.refused("rule", lambda: play(("waits", 9, 9), 2, {}))
        self.refused("rule", lambda: play(("rows", ("2", "")[0], "2"), 2, {}))

    def test_a_rule_is_refused_ahead_of_wakes(self):
        for why, rules in WRONG_RULES.items():
            for call in calls(rules[0], 2, {-1: 99}):
                self.refused(why, call)


class Wakes(unittest.TestCase):

    def test_wakes_that_are_none_and_the_least_number(self):
        for wakes, number in WRONG_WAKES:
            for rule in GOOD_RULES:
                with self.subTest(wakes=wakes, rule=rule):
                    for call in calls(rule, 2, wakes):
                        with self.assertRaises(BadWakes) as caught:
                            call()
                        self.assertEqual(caught.exception.number, number)

    def test_numbers_are_those_of_so_many_stations(self):
        for many in range(1, 9):
            play(("turns",), many, {number: 0 for number in range(many)})
            with self.assertRaises(BadWakes) as caught:
                play(("turns",), many, {number: 0 for number in range(9)})
            self.assertEqual(caught.exception.number, many)

    def test_moments_from_0_to_40_can_be(self):
        for moment in range(41):
            self.assertEqual(times(("turns",), 1, {0: moment}), {0: moment})


if __name__ == "__main__":
    unittest.main()
