"""Stations by themselves: each is asked, and told what is heard, moment by moment."""

import inspect
import random
import unittest

from oneair import stations
from oneair.playing import play
from oneair.stations import Station
from tests import model

TREES = [("tree", how, late) for how in ("plain", "skips") for late in ("waits", "joins")]
WAITS = [("waits", base) for base in (2, 3, 4)]


def row_rule(many, *rows):
    """These rows, and more of them that are 0 throughout."""
    return ("rows", rows + ("0" * len(rows[0]),) * (many - len(rows)))


def spoken(station, awake, words):
    """What a station says if it is awake, or not, and then told these words."""
    answers = []
    for word in words:
        answers.append(station.speaks(awake))
        station.hears(word)
    return answers


class Case(unittest.TestCase):

    def speaks_so(self, rule, many, number, *story):
        """A story: words that are told, each behind `*` if the station is to speak."""
        station = Station(rule, many, number)
        for moment, part in enumerate(story):
            speaks = station.speaks(True)
            self.assertIs(speaks, part.startswith("*"), (rule, moment))
            self.assertIsNone(station.hears(part.strip("*")))


class Interface(Case):

    def test_defined_where_it_is_listed(self):
        self.assertEqual(Station.__module__, "oneair.stations")
        self.assertIn("def speaks(self, awake)", inspect.getsource(stations.Station))
        for name in ("speaks", "hears"):
            self.assertIn(name, vars(Station))

    def test_arguments_by_name(self):
        station = Station(rule=("turns",), many=1, number=0)
        self.assertIs(station.speaks(awake=True), True)
        self.assertIsNone(station.hears(word="heard"))


class Alone(Case):

    def test_by_turns(self):
        self.speaks_so(("turns",), 3, 1, "silent", "*noise", "silent", "heard", "*heard", "silent",
                       "silent", "silent")
        self.speaks_so(("turns",), 1, 0, "*noise", "*noise", "*heard", "silent")

    def test_by_rows(self):
        rule = row_rule(3, "000", "011")
        self.speaks_so(rule, 3, 1, "heard", "*noise", "*noise", "silent", "*heard", "silent", "silent")

    def test_by_waits(self):
        # 6 of eight to the base 3 is 20, to the base 2 110, to the base 4 12.
        self.speaks_so(("waits", 3), 8, 6, "*noise", "*noise", "noise", "heard", "*noise", "*heard",
                       "silent", "silent")
        self.speaks_so(("waits", 2), 8, 6, "*noise", "*noise", "silent", "*noise", "silent", "*noise",
                       "*noise", "noise", "*heard", "silent")
        self.speaks_so(("waits", 4), 8, 6, "*noise", "noise", "noise", "*noise", "silent", "*noise",
                       "heard", "silent", "*heard")

    def test_by_a_tree(self):
        # 2 of four is 10: to level 1, behind silent to 0, with the second digit to 0 again.
        self.speaks_so(("tree", "plain", "joins"), 4, 2,
                       "*noise", "silent", "*noise", "*noise", "heard", "*heard", "silent")
        self.speaks_so(("tree", "skips", "joins"), 4, 2,
                       "*noise", "silent", "*noise", "heard", "*heard", "silent")
        # 1 of four is 01: noise of others lifts it, heard and silent let it down.
        self.speaks_so(("tree", "plain", "waits"), 4, 1,
                       "*noise", "*noise", "noise", "heard", "silent", "*heard", "silent")

    def test_over_is_over_whatever_is_heard(self):
        for rule in [("turns",), row_rule(2, "1")] + TREES + WAITS:
            station = Station(rule, 2, 0)
            self.assertIs(station.speaks(True), True)
            station.hears("heard")
            words = ["noise", "heard", "silent", "noise", "silent", "heard", "silent", "heard"] * 3
            self.assertEqual(spoken(station, True, words), [False] * 24)

    def test_another_one_that_is_heard_is_not_it(self):
        station = Station(("turns",), 2, 1)
        self.assertEqual(spoken(station, True, ["heard", "noise", "heard"]), [False, True, False])
        self.assertIs(station.speaks(True), True)

    def test_asleep_it_keeps_silent(self):
        for rule in [("turns",), row_rule(2, "1", "1")] + TREES + WAITS:
            for number in (0, 1):
                station = Station(rule, 2, number)
                for answer in spoken(station, False, ["silent", "heard", "silent", "heard"] * 10):
                    self.assertIs(answer, False)

    def test_moments_go_on_as_it_sleeps(self):
        station = Station(("turns",), 3, 2)
        spoken(station, False, ["silent"] * 4)
        self.assertEqual(spoken(station, True, ["silent", "noise", "silent"]), [False, True, False])
        station = Station(row_rule(2, "0001"), 2, 0)
        spoken(station, False, ["silent"] * 6)
        self.assertEqual(spoken(station, True, ["silent", "noise", "silent"]), [False, True, False])

    def test_a_tree_of_others_goes_on_as_it_sleeps(self):
        # Behind noise two levels are open, behind heard one, behind silent none.
        for how in ("plain", "skips"):
            station = Station(("tree", how, "waits"), 4, 3)
            spoken(station, False, ["heard", "silent", "noise"])
            self.assertEqual(spoken(station, True, ["heard", "heard", "noise"]), [False, False, True])
            station = Station(("tree", how, "joins"), 4, 3)
            spoken(station, False, ["heard", "silent", "noise"])
            self.assertIs(station.speaks(True), True)

    def test_skipped_silents_leave_as_many_levels(self):
        # noise: two, silent: two still, heard: one, silent: none
        words = ["noise", "silent", "silent", "heard"]
        station = Station(("tree", "skips", "waits"), 8, 0)
        spoken(station, False, words)
        self.assertEqual(spoken(station, True, ["heard", "noise"]), [False, True])
        # plainly there is none behind two silents
        station = Station(("tree", "plain", "waits"), 8, 0)
        spoken(station, False, words[:3])
        self.assertIs(station.speaks(True), True)

    def test_silent_behind_heard_is_one_less_with_skips_too(self):
        # noise, noise: three levels; heard, silent: one; heard: none
        for how in ("plain", "skips"):
            station = Station(("tree", how, "waits"), 8, 0)
            spoken(station, False, ["noise", "noise", "heard", "silent"])
            self.assertEqual(spoken(station, True, ["heard", "noise"]), [False, True])

    def test_stations_know_nothing_of_one_another(self):
        first, second = Station(("waits", 2), 2, 1), Station(("waits", 2), 2, 1)
        self.assertEqual(spoken(first, True, ["noise", "silent"]), [True, False])
        self.assertEqual(spoken(second, True, ["noise", "silent"]), [True, False])
        self.assertEqual(spoken(first, True, ["heard", "silent"]), [True, False])
        self.assertEqual(spoken(second, True, ["noise", "silent", "heard"]), [True, False, True])


class BesidePlay(Case):

    def together(self, rule, many, wakes):
        """All stations, asked and told moment by moment, go as play tells."""
        told = play(rule, many, wakes)[1]
        self.assertEqual(told, model.run(rule, many, wakes)[1])
        group = [Station(rule, many, number) for number in range(many)]
        for moment, (speakers, word) in enumerate(told):
            asked = tuple(number for number, station in enumerate(group)
                          if station.speaks(wakes.get(number, 99) <= moment))
            self.assertEqual(asked, speakers, (rule, many, wakes, moment))
            for station in group:
                station.hears(word)
        for number in wakes:
            # One that is asked and told alone does as it did among all.
            station = Station(rule, many, number)
            for moment, (speakers, word) in enumerate(told):
                speaks = station.speaks(moment >= wakes[number])
                self.assertIs(speaks, number in speakers)
                station.hears(word)

    def test_one_and_eight(self):
        for rule in [("turns",)] + TREES + WAITS:
            for many in (1, 8):
                self.together(rule, many, {})
                self.together(rule, many, {number: 0 for number in range(many)})
                self.together(rule, many, {many - 1: 40})

    def test_some_of_all(self):
        chance = random.Random(12)
        for _ in range(500):
            many = chance.randint(1, 8)
            wakes = {n: chance.randint(0, 6) for n in range(many) if chance.random() < 0.7}
            rows = tuple("".join(chance.choice("01") for _ in range(12)) for _ in range(many))
            self.together(chance.choice([("turns",), ("rows", rows)] + TREES + WAITS), many, wakes)


if __name__ == "__main__":
    unittest.main()
