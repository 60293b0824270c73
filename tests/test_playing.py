"""What is played: by all rules, until it is over or goes on for ever."""

import itertools
import random
import unittest

from oneair import playing
from oneair.playing import play, times
from tests import model

TREES = [("tree", how, late) for how in ("plain", "skips") for late in ("waits", "joins")]
WAITS = [("waits", base) for base in (2, 3, 4)]


def told(*speakers):
    """The list that play tells if these speak, moment by moment."""
    words = ["silent", "heard"] + ["noise"] * 7
    return [(who, words[len(who)]) for who in speakers]


class Case(unittest.TestCase):

    def over(self, rule, many, wakes, *speakers):
        self.assertEqual(play(rule, many, wakes), ("heard", told(*speakers), 0))

    def forever(self, rule, many, wakes, around, *speakers):
        self.assertEqual(play(rule, many, wakes), ("forever", told(*speakers), around))


class Interface(Case):

    def test_defined_where_they_are_listed(self):
        for name in ("play", "times"):
            self.assertEqual(getattr(playing, name).__module__, "oneair.playing")

    def test_arguments_by_name(self):
        self.assertEqual(play(rule=("turns",), many=1, wakes={0: 0})[0], "heard")
        self.assertEqual(times(rule=("turns",), many=1, wakes={0: 0}), {0: 0})

    def test_kinds_of_values(self):
        answer = play(("waits", 2), 2, {0: 0, 1: 0})
        self.assertIs(type(answer), tuple)
        self.assertEqual([type(part) for part in answer], [str, list, int])
        for row in answer[1]:
            self.assertEqual([type(part) for part in row], [tuple, str])
        self.assertIs(type(times(("waits", 2), 2, {0: 0, 1: 0})), dict)


class NoWakes(Case):

    def test_over_at_once(self):
        for many in range(1, 9):
            rows = ("rows", ("0",) * many)
            for rule in [("turns",), rows] + TREES + WAITS:
                self.over(rule, many, {})
                self.assertEqual(times(rule, many, {}), {})


class ByTurns(Case):

    def test_one_station(self):
        self.over(("turns",), 1, {0: 0}, (0,))
        self.over(("turns",), 1, {0: 2}, (), (), (0,))

    def test_eight_at_once(self):
        wakes = {number: 0 for number in range(8)}
        self.over(("turns",), 8, wakes, *[(number,) for number in range(8)])

    def test_late_ones_wait_for_their_turn(self):
        self.over(("turns",), 3, {0: 0, 2: 1}, (0,), (), (2,))
        self.over(("turns",), 3, {0: 1, 2: 3}, (), (), (), (0,), (), (2,))
        self.over(("turns",), 3, {1: 1}, (), (1,))

    def test_moment_40(self):
        self.over(("turns",), 8, {0: 40}, *[()] * 40, (0,))
        self.over(("turns",), 8, {7: 40}, *[()] * 47, (7,))

    def test_it_is_over_behind_the_last_one(self):
        self.over(("turns",), 5, {0: 0}, (0,))


class ByRows(Case):

    def test_each_where_its_row_has_a_1(self):
        self.over(("rows", ("01", "10")), 2, {0: 0, 1: 0}, (1,), (0,))
        self.over(("rows", ("011", "110")), 2, {0: 0, 1: 0}, (1,), (0,))
        self.over(("rows", ("110", "011")), 2, {0: 0, 1: 0}, (0,), (1,))
        self.over(("rows", ("111", "110")), 2, {0: 0, 1: 0}, (0, 1), (0, 1), (0,), (1,))

    def test_the_place_is_the_moment_s_rest_not_the_time_awake(self):
        self.over(("rows", ("100", "100")), 2, {0: 1}, (), (), (), (0,))
        self.over(("rows", ("100", "010")), 2, {0: 0, 1: 2}, (0,), (), (), (), (1,))

    def test_rows_of_one_sign(self):
        self.over(("rows", ("1",)), 1, {0: 0}, (0,))
        self.over(("rows", ("1", "1")), 2, {0: 0, 1: 3}, (0,), (), (), (1,))
        self.forever(("rows", ("1", "1")), 2, {0: 0, 1: 0}, 1, (0, 1))
        self.forever(("rows", ("0",)), 1, {0: 0}, 1, ())
        self.forever(("rows", ("0",)), 1, {0: 40}, 1, *[()] * 41)

    def test_rows_of_twelve_signs(self):
        late = "0" * 11 + "1"
        self.over(("rows", (late, "1" + "0" * 11)), 2, {0: 0, 1: 1}, *[()] * 11, (0,), (1,))
        self.forever(("rows", (late, late)), 2, {0: 0, 1: 0}, 12, *[()] * 11, (0, 1))
        self.forever(("rows", (late, late)), 2, {0: 0, 1: 5}, 12, *[()] * 11, (0, 1), *[()] * 5)

    def test_the_whole_length_though_signs_repeat_sooner(self):
        self.forever(("rows", ("0101", "0101")), 2, {0: 0, 1: 0}, 4, (), (0, 1), (), (0, 1))

    def test_from_the_last_waking_on(self):
        self.forever(("rows", ("001", "001")), 2, {0: 0, 1: 1}, 3, (), (), (0, 1), ())
        self.forever(("rows", ("0", "0")), 2, {0: 0, 1: 7}, 1, *[()] * 8)

    def test_who_is_over_stands_otherwise(self):
        rule = ("rows", ("110", "110", "001"))
        wakes = {0: 0, 1: 0, 2: 0}
        self.forever(rule, 3, wakes, 3, (0, 1), (0, 1), (2,), (0, 1), (0, 1), ())
        self.assertEqual(times(rule, 3, wakes), {2: 2})

    def test_sleepers_say_nothing(self):
        self.over(("rows", ("1", "1", "1")), 3, {1: 0}, (1,))


class ByWaits(Case):

    def test_they_speak_as_they_wake(self):
        self.over(("waits", 2), 8, {5: 0}, (5,))
        self.over(("waits", 4), 8, {5: 2, 0: 0}, (0,), (), (5,))
        self.over(("waits", 2), 1, {0: 40}, *[()] * 40, (0,))

    def test_behind_noise_each_lets_its_digit_pass(self):
        self.over(("waits", 2), 2, {0: 0, 1: 0}, (0, 1), (0,), (1,))
        self.over(("waits", 3), 3, {0: 0, 2: 0}, (0, 2), (0,), (), (2,))
        self.over(("waits", 4), 4, {0: 0, 3: 0}, (0, 3), (0,), (), (), (3,))
        self.over(("waits", 4), 4, {2: 0, 3: 0}, (2, 3), (), (), (2,), (3,))

    def test_from_the_last_digit_on(self):
        # 01 and 10, the last ones first: 1 lets one pass, 2 none.
        self.over(("waits", 2), 4, {1: 0, 2: 0}, (1, 2), (2,), (1,))
        # 001 and 101: alike in the last two, the third noise parts them.
        self.over(("waits", 2), 8, {1: 0, 5: 0}, (1, 5), (), (1, 5), (1, 5), (1,), (5,))
        # 11 and 01 to the base 3 (of 4 and 1).
        self.over(("waits", 3), 5, {1: 0, 4: 0}, (1, 4), (), (1, 4), (1,), (4,))

    def test_digits_are_as_many_as_the_greatest_number_has(self):
        # 0 and 4 of five or more to the base 4: 00 and 10.
        self.over(("waits", 4), 5, {0: 0, 4: 0}, (0, 4), (0, 4), (0,), (4,))
        self.over(("waits", 4), 8, {3: 0, 7: 0},
                  (3, 7), (), (), (), (3, 7), (3,), (7,))

    def test_behind_the_first_digit_from_the_last_again(self):
        # 0, 1, 3 of four: 00, 01, 11. By its third noise, at 4, 1 lets one pass again.
        self.over(("waits", 2), 4, {0: 0, 3: 0, 1: 1}, (0, 3), (0, 1), (0, 3), (0, 1), (0, 1, 3),
                  (0,), (1, 3), (1,), (3,))

    def test_only_noise_that_it_was_in(self):
        # 3 lets three moments pass, whatever 0, 1 and 2 do in them.
        self.over(("waits", 4), 4, {0: 0, 3: 0, 1: 2, 2: 2},
                  (0, 3), (0,), (1, 2), (), (1, 3), (2,), (1,), (), (3,))

    def test_for_ever_and_how_many_around(self):
        self.forever(("waits", 2), 4, {0: 0, 1: 0, 2: 0}, 6,
                     (0, 1, 2), (0, 2), (0, 1), (0, 1, 2), (0, 2), (0, 1))

    def test_the_moment_of_the_last_waking_counts(self):
        # 1 and 2 go by 1, 0 and by 0, 1. At 5 both speak, 2 by its last digit as when it woke at 2.
        self.forever(("waits", 2), 3, {0: 0, 1: 0, 2: 2}, 3, (0, 1), (0,), (1, 2), (1, 2), ())
        # At 1, the last waking, they stand otherwise than ever behind: 0 isn't over yet.
        self.forever(("waits", 2), 3, {0: 0, 1: 1, 2: 0}, 3,
                     (0, 2), (0, 1, 2), (0,), (1, 2), (1, 2), ())

    def test_the_place_in_the_digits_is_of_the_standing(self):
        # Station 0 speaks at all moments, but its place is behind after three of them.
        rows = play(("waits", 2), 4, {0: 0, 1: 0, 2: 0})[1]
        self.assertEqual(rows[:3], rows[3:])


class ByTree(Case):

    def all_trees(self, many, wakes, *speakers):
        for rule in TREES:
            with self.subTest(rule=rule):
                self.over(rule, many, wakes, *speakers)

    def test_one_alone(self):
        self.all_trees(1, {0: 0}, (0,))
        self.all_trees(1, {0: 40}, *[()] * 40, (0,))
        self.all_trees(8, {7: 1}, (), (7,))

    def test_noise_splits_by_the_first_digit(self):
        self.all_trees(2, {0: 0, 1: 0}, (0, 1), (0,), (1,))
        self.all_trees(4, {0: 0, 3: 0}, (0, 3), (0,), (3,))
        # 010 and 100: the first digit, not the last one
        self.all_trees(8, {2: 0, 4: 0}, (2, 4), (2,), (4,))

    def test_digits_are_as_many_as_the_greatest_number_has(self):
        # 001 and 010 of eight, 01 and 10 of four
        self.all_trees(8, {1: 0, 2: 0}, (1, 2), (1, 2), (1,), (2,))
        self.all_trees(4, {1: 0, 2: 0}, (1, 2), (1,), (2,))

    def test_others_come_one_higher(self):
        self.all_trees(4, {0: 0, 1: 0, 2: 0}, (0, 1, 2), (0, 1), (0,), (1,), (2,))
        self.all_trees(4, {0: 0, 1: 0, 2: 0, 3: 0},
                       (0, 1, 2, 3), (0, 1), (0,), (1,), (2, 3), (2,), (3,))

    def test_skips_splits_what_would_be_noise(self):
        for late in ("waits", "joins"):
            self.over(("tree", "plain", late), 4, {2: 0, 3: 0}, (2, 3), (), (2, 3), (2,), (3,))
            self.over(("tree", "skips", late), 4, {2: 0, 3: 0}, (2, 3), (), (2,), (3,))

    def test_skips_again_behind_such_a_silent(self):
        for late in ("waits", "joins"):
            self.over(("tree", "plain", late), 8, {6: 0, 7: 0},
                      (6, 7), (), (6, 7), (), (6, 7), (6,), (7,))
            self.over(("tree", "skips", late), 8, {6: 0, 7: 0}, (6, 7), (), (), (6,), (7,))

    def test_all_others_stay_as_it_skips(self):
        for late in ("waits", "joins"):
            # behind 2, 3 and 4: 010 and 011 split thrice while 100 stays behind
            self.over(("tree", "skips", late), 8, {2: 0, 3: 0, 4: 0},
                      (2, 3, 4), (2, 3), (), (2,), (3,), (4,))
            self.over(("tree", "plain", late), 8, {2: 0, 3: 0, 4: 0},
                      (2, 3, 4), (2, 3), (), (2, 3), (2,), (3,), (4,))

    def test_silent_behind_heard_is_not_skipped(self):
        # The level of those with a 1 is empty as it comes, behind 0 and 1.
        for how in ("plain", "skips"):
            self.over(("tree", how, "waits"), 4, {0: 0, 1: 0, 2: 1, 3: 1},
                      (0, 1), (0, 1), (0,), (1,), (), (2, 3), (), *[(2, 3)] * (how == "plain"),
                      (2,), (3,))

    def test_late_ones_wait_until_no_tree_is_open(self):
        self.over(("tree", "plain", "waits"), 4, {2: 0, 3: 0, 0: 1},
                  (2, 3), (), (2, 3), (2,), (3,), (0,))
        self.over(("tree", "skips", "waits"), 4, {2: 0, 3: 0, 0: 1},
                  (2, 3), (), (2,), (3,), (0,))

    def test_late_ones_join_at_level_0(self):
        self.over(("tree", "plain", "joins"), 4, {2: 0, 3: 0, 0: 1},
                  (2, 3), (0,), (2, 3), (2,), (3,))
        self.over(("tree", "skips", "joins"), 4, {2: 0, 3: 0, 0: 1},
                  (2, 3), (0,), (2, 3), (2,), (3,))

    def test_who_waits_comes_in_with_all_who_wait(self):
        self.over(("tree", "plain", "waits"), 4, {0: 0, 1: 0, 2: 1, 3: 2},
                  (0, 1), (0, 1), (0,), (1,), (), (2, 3), (), (2, 3), (2,), (3,))

    def test_behind_the_last_digit_the_first_again(self):
        # 0 joins 2 on a level that has come of two splits, of two digits each.
        self.over(("tree", "plain", "joins"), 4, {2: 0, 3: 0, 0: 3},
                  (2, 3), (), (2, 3), (0, 2), (0,), (2,), (3,))
        # 1 and 2 differ in both: 01 and 10 split by the first digit again.
        self.over(("tree", "plain", "joins"), 4, {2: 0, 3: 0, 1: 3},
                  (2, 3), (), (2, 3), (1, 2), (1,), (2,), (3,))

    def test_a_joining_one_splits_by_the_level_s_digit(self):
        # 1 (01) joins 3 (11) behind two splits; 3 and 2 have left the first digit behind.
        self.over(("tree", "plain", "joins"), 4, {2: 0, 3: 0, 1: 2},
                  (2, 3), (), (1, 2, 3), (2,), (1, 3), (1,), (3,))

    def test_a_tree_opens_anew_while_all_sleep(self):
        self.all_trees(2, {0: 3, 1: 3}, (), (), (), (0, 1), (0,), (1,))

    def test_eight_at_once(self):
        everyone = {number: 0 for number in range(8)}
        self.all_trees(8, everyone, tuple(range(8)), (0, 1, 2, 3), (0, 1), (0,), (1,), (2, 3), (2,),
                       (3,), (4, 5, 6, 7), (4, 5), (4,), (5,), (6, 7), (6,), (7,))


class Times(Case):

    def test_by_their_numbers(self):
        self.assertEqual(times(("turns",), 3, {2: 0, 0: 1}), {0: 3, 2: 2})
        self.assertEqual(times(("waits", 2), 4, {1: 0, 2: 0}), {1: 2, 2: 1})
        self.assertEqual(list(times(("waits", 2), 4, {1: 0, 2: 0})), [1, 2])

    def test_who_is_never_heard_is_not_told(self):
        self.assertEqual(times(("rows", ("1", "1")), 2, {0: 0, 1: 0}), {})
        self.assertEqual(times(("rows", ("1", "0")), 2, {0: 0, 1: 0}), {0: 0})

    def test_as_play_tells(self):
        for rule in [("turns",)] + TREES + WAITS:
            for wakes in ({0: 4, 3: 0, 5: 0}, {number: number % 3 for number in range(8)}):
                rows = play(rule, 8, wakes)[1]
                heard = {who[0]: at for at, (who, word) in enumerate(rows) if word == "heard"}
                self.assertEqual(times(rule, 8, wakes), heard)


class BesideTheModel(Case):

    def compare(self, rule, many, wakes):
        answer = model.run(rule, many, wakes)
        if play(rule, many, wakes) != answer:
            self.fail(f"{rule}, {many}, {wakes}: {play(rule, many, wakes)} is not {answer}")
        return answer[0]

    def test_few_stations_and_all_wakes(self):
        for many in (1, 2, 3, 4):
            latest = 7 - many
            for moments in itertools.product([None, *range(latest)], repeat=many):
                wakes = {n: at for n, at in enumerate(moments) if at is not None}
                for rule in [("turns",)] + TREES + WAITS:
                    self.compare(rule, many, wakes)

    def test_many_stations_and_some_wakes(self):
        chance = random.Random(11)
        words = set()
        for _ in range(3000):
            many = chance.randint(3, 8)
            latest = chance.choice([0, 1, 3, 8, 40])
            wakes = {n: chance.randint(0, latest) for n in range(many) if chance.random() < 0.8}
            length = chance.randint(1, 12)
            rows = tuple("".join(chance.choice("01") for _ in range(length)) for _ in range(many))
            rule = chance.choice([("turns",), ("rows", rows)] + TREES + WAITS + WAITS)
            words.add((rule[0], self.compare(rule, many, wakes)))
        self.assertEqual(words, {("turns", "heard"), ("rows", "heard"), ("rows", "forever"),
                                 ("tree", "heard"), ("waits", "heard"), ("waits", "forever")})


class HandedInAndTold(Case):

    def test_what_is_handed_in_is_not_changed(self):
        for rule in [("turns",), ("rows", ("01", "10"))] + TREES + WAITS:
            wakes = {1: 2, 0: 0}
            play(rule, 2, wakes)
            times(rule, 2, wakes)
            self.assertEqual(list(wakes.items()), [(1, 2), (0, 0)])

    def test_what_is_handed_in_may_be_changed_behind(self):
        wakes = {0: 0, 1: 0}
        answer = play(("waits", 2), 2, wakes)
        wakes.clear()
        self.assertEqual(answer, ("heard", told((0, 1), (0,), (1,)), 0))

    def test_what_is_told_may_be_changed(self):
        for rule in [("turns",), ("rows", ("1", "1"))] + TREES + WAITS:
            for wakes in ({0: 0, 1: 0}, {}):
                first = play(rule, 2, wakes)
                kept = (first[0], list(first[1]), first[2])
                first[1].append("more")
                first[1].reverse()
                self.assertEqual(play(rule, 2, wakes), kept)
                heard = times(rule, 2, wakes)
                kept = dict(heard)
                heard[9] = 9
                self.assertEqual(times(rule, 2, wakes), kept)

    def test_the_same_question_has_the_same_answer(self):
        for rule in [("turns",), ("rows", ("1", "1"))] + TREES + WAITS:
            answers = [play(rule, 2, {0: 1, 1: 1}) for _ in range(3)]
            self.assertEqual(answers[1:], answers[:-1])

    def test_the_order_of_wakes_is_nothing(self):
        for rule in TREES + WAITS:
            self.assertEqual(play(rule, 4, {0: 1, 2: 0, 3: 0}), play(rule, 4, {3: 0, 2: 0, 0: 1}))
            self.assertEqual(list(times(rule, 4, {3: 0, 0: 0})), [0, 3])


if __name__ == "__main__":
    unittest.main()
