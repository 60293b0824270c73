"""What holds over the whole program: its interface, and that nothing is kept from one question to another."""

import copy
import importlib
import inspect
import random
import unittest

from oneair.asks import judged, tree_plan, trimmed
from oneair.errors import AirError, BadNumber, BadPlan, BadRule, BadText
from oneair.judging import against, worst
from oneair.notes import read_rule, written
from oneair.playing import play, times
from oneair.rows import two, unheard
from oneair.stations import Station

INTERFACE = {
    "playing": {"play": ["rule", "many", "wakes"], "times": ["rule", "many", "wakes"]},
    "judging": {"worst": ["rule", "many", "most"], "against": ["rule", "other", "many", "most"]},
    "rows": {"unheard": ["rows", "most"], "two": ["many"]},
    "asks": {"judged": ["plan", "many", "most"], "trimmed": ["plan", "many", "most"], "tree_plan": ["many"]},
    "notes": {"written": ["rule", "many"], "read_rule": ["text", "many"]},
}

RULES = [("turns",), ("rows", ("011", "101", "110")), ("tree", "plain", "waits"), ("tree", "skips", "joins"),
         ("waits", 2), ("waits", 3)]


def heard_by_stations(rule, many, words):
    """What fresh stations say that are awake, and told these words."""
    group = [Station(rule, many, number) for number in range(many)]
    answers = []
    for word in words:
        answers.append([station.speaks(True) for station in group])
        for station in group:
            station.hears(word)
    return answers


def questions():
    """Calls of all functions, with what they are handed in."""
    asked = [(two, (many,)) for many in (1, 3, 5)] + [(tree_plan, (many,)) for many in (1, 2, 5)]
    for rule in RULES:
        asked += [(play, (rule, 3, wakes)) for wakes in ({}, {0: 0, 1: 0, 2: 0}, {2: 1, 0: 3})]
        asked += [(times, (rule, 3, {0: 0, 2: 0})), (worst, (rule, 3, 2)), (worst, (rule, 3, 3))]
        asked += [(against, (rule, other, 3, 3)) for other in RULES]
        asked += [(written, (rule, 3)), (heard_by_stations, (rule, 3, ["noise", "silent", "heard"]))]
    for rows in (("1",), ("01", "10"), ("011", "101", "110")):
        asked += [(unheard, (rows, most)) for most in range(1, len(rows) + 1)]
    for plan in (("end",), tree_plan(3), ("ask", (0, 1), ("end",), (("end",),) * 2, tree_plan(3))):
        asked += [(call, (plan, 3, most)) for call in (judged, trimmed) for most in (1, 2, 3)]
    asked += [(read_rule, (text, 3)) for text in ("turns", "rows 0 1 1", "waits 2", "tree skips waits")]
    return asked


def spoil(told):
    """Change all that can be changed in what was told."""
    if isinstance(told, (list, tuple)):
        for part in told:
            spoil(part)
    if isinstance(told, list):
        told.append("more")
        told.reverse()
    if isinstance(told, dict):
        told.clear()


class Interface(unittest.TestCase):

    def test_each_function_in_its_file(self):
        for file, functions in INTERFACE.items():
            module = importlib.import_module(f"oneair.{file}")
            for name, parameters in functions.items():
                function = getattr(module, name)
                self.assertEqual(function.__module__, f"oneair.{file}")
                self.assertEqual(list(inspect.signature(function).parameters), parameters)

    def test_the_class(self):
        self.assertEqual(list(inspect.signature(Station).parameters), ["rule", "many", "number"])
        for name, parameters in (("speaks", ["self", "awake"]), ("hears", ["self", "word"])):
            self.assertEqual(list(inspect.signature(vars(Station)[name]).parameters), parameters)


class NothingIsKept(unittest.TestCase):

    def test_asked_again_behind_a_change_of_what_was_told(self):
        for call, handed in questions():
            kept = repr(call(*handed))
            told = call(*handed)
            spoil(told)
            self.assertEqual(repr(call(*handed)), kept)

    def test_in_whatever_order(self):
        asked = questions()
        answers = [repr(call(*handed)) for call, handed in asked]
        for seed in range(3):
            order = list(range(len(asked)))
            random.Random(seed).shuffle(order)
            for at in order:
                call, handed = asked[at]
                told = call(*handed)
                self.assertEqual(repr(told), answers[at])
                spoil(told)

    def test_nothing_that_is_handed_in_is_changed(self):
        for call, handed in questions():
            before = copy.deepcopy(handed)
            call(*handed)
            self.assertEqual(repr(handed), repr(before))

    def test_what_is_handed_in_may_be_changed_behind(self):
        for rule in RULES:
            wakes = {0: 0, 1: 0, 2: 2}
            first, second = play(rule, 3, wakes), times(rule, 3, wakes)
            kept = repr((first, second))
            wakes.clear()
            wakes[7] = 99
            self.assertEqual(repr((first, second)), kept)
            self.assertEqual(repr((play(rule, 3, {0: 0, 1: 0, 2: 2}), times(rule, 3, {0: 0, 1: 0, 2: 2}))), kept)

    def test_a_refusal_changes_nothing(self):
        asked = questions()
        answers = [repr(call(*handed)) for call, handed in asked]
        wrong = [lambda: play(("walk",), 3, {}), lambda: times(("turns",), 3, {9: 9}), lambda: worst(("turns",), 3, 4),
                 lambda: against(("turns",), ("walk",), 3, 3), lambda: unheard(("1", "x"), 1), lambda: two(9),
                 lambda: judged(("x",), 3, 3), lambda: trimmed(("ask", (9,), 1, 2, 3), 3, 3), lambda: tree_plan(0),
                 lambda: written(("waits", 7), 3), lambda: read_rule("waits 02", 3), lambda: Station((), 3, 0)]
        for call in wrong:
            self.assertRaises(AirError, call)
        self.assertEqual([repr(call(*handed)) for call, handed in asked], answers)


class Refused(unittest.TestCase):

    def test_a_number_of_stations_ahead_of_all_else(self):
        bad = ("walk", "plain")
        for many in (0, -1, 9, 10 ** 30, True, False):
            calls = [lambda: play(bad, many, {-1: -1}), lambda: times(bad, many, {-1: -1}),
                     lambda: Station(bad, many, 0), lambda: worst(bad, many, 99), lambda: worst(bad, many, 1),
                     lambda: against(bad, bad, many, 1), lambda: judged(bad, many, 1), lambda: trimmed(bad, many, 1),
                     lambda: tree_plan(many), lambda: two(many), lambda: written(bad, many),
                     lambda: read_rule("walk plain", many)]
            for call in calls:
                self.assertRaises(BadNumber, call)

    def test_a_number_of_speakers_ahead_of_all_but_that(self):
        bad = ("walk", "plain")
        for most in (0, -1, 4, 9, 10 ** 30, True, False):
            calls = [lambda: worst(bad, 3, most), lambda: against(bad, bad, 3, most), lambda: judged(bad, 3, most),
                     lambda: trimmed(bad, 3, most), lambda: unheard(("x", "", "00"), most)]
            for call in calls:
                self.assertRaises(BadNumber, call)

    def test_what_is_refused_with_good_numbers(self):
        bad = ("walk", "plain")
        for most in (1, 2, 3):
            for call in (lambda: worst(bad, 3, most), lambda: against(("turns",), bad, 3, most),
                         lambda: unheard(("x", "", "00"), most)):
                self.assertRaises(BadRule, call)
            for call in (lambda: judged(bad, 3, most), lambda: trimmed(bad, 3, most)):
                self.assertRaises(BadPlan, call)
        self.assertRaises(BadText, read_rule, "walk plain", 3)


if __name__ == "__main__":
    unittest.main()
