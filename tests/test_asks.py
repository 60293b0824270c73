"""Plans: whom they miss, how many asks they take, and what of them is idle."""

import inspect
import itertools
import random
import unittest

from oneair import asks
from oneair.asks import judged, tree_plan, trimmed
from oneair.errors import BadNumber, BadPlan

END = ("end",)


def ask(numbers, silent=END, heards=None, noise=END):
    """An ask; behind heard it goes on as behind silent, if nothing else is said."""
    if heards is None:
        heards = (silent,) * len(numbers)
    return ("ask", numbers, silent, heards, noise)


def one_by_one(*numbers):
    """A plan that asks these, each by itself."""
    plan = END
    for number in numbers[::-1]:
        plan = ask((number,), plan)
    return plan


def nested(many_asks, numbers=(0,)):
    """So many asks within one another, each behind silent, heard or noise of another one."""
    plan = END
    for at in range(many_asks):
        parts = [(plan, END, END), (END, plan, END), (END, END, plan)][at % 3]
        plan = ("ask", numbers, parts[0], (parts[1],) * len(numbers), parts[2])
    return plan


def all_sets(many, most):
    return [group for size in range(most + 1)
            for group in itertools.combinations(range(many), size)]


def walk(plan, group):
    """All asks that a set comes to: the steps that lead there, and what is heard; and who is missed."""
    steps, told, left = (), [], set(group)
    while plan[0] == "ask":
        speakers = left & set(plan[1])
        word = ["silent", "heard", "noise"][min(len(speakers), 2)]
        told.append((steps, word))
        if word == "heard":
            left -= speakers
            place = plan[1].index(min(speakers))
            plan, steps = plan[3][place], steps + (place,)
        else:
            plan, steps = plan[2 if word == "silent" else 4], steps + (word,)
    return told, tuple(sorted(left))


def model_judged(plan, many, most):
    walks = [(group, *walk(plan, group)) for group in all_sets(many, most)]
    for group, _, left in walks:
        if left:
            return "missed", group, left
    greatest = max(len(told) for _, told, _ in walks)
    return "heard", greatest, [group for group, told, _ in walks if len(told) == greatest][0]


def model_trimmed(plan, many, most):
    """The same from above: what is heard at each ask of the plan, over all sets, and then built anew."""
    heard = {}
    for group in all_sets(many, most):
        for steps, word in walk(plan, group)[0]:
            heard.setdefault(steps, set()).add(word)

    def built(plan, steps):
        if plan == END or steps not in heard:
            return END
        if heard[steps] == {"silent"}:
            return built(plan[2], steps + ("silent",))
        if heard[steps] == {"noise"}:
            return built(plan[4], steps + ("noise",))
        return ask(plan[1], built(plan[2], steps + ("silent",)),
                   tuple(built(part, steps + (place,)) for place, part in enumerate(plan[3])),
                   built(plan[4], steps + ("noise",)))
    return built(plan, ())


def some_plan(chance, many, depth):
    """A plan by chance; it asks some of the stations, again and again."""
    if depth == 0 or chance.random() < 0.1:
        return END
    numbers = tuple(sorted(chance.sample(range(many), chance.randint(1, many))))
    parts = [some_plan(chance, many, depth - 1) for _ in range(len(numbers) + 2)]
    return ask(numbers, parts[0], tuple(parts[1:-1]), parts[-1])


class Interface(unittest.TestCase):

    def test_defined_where_they_are_listed(self):
        for name, parameters in (("judged", ["plan", "many", "most"]),
                                 ("trimmed", ["plan", "many", "most"]), ("tree_plan", ["many"])):
            self.assertEqual(getattr(asks, name).__module__, "oneair.asks")
            self.assertEqual(list(inspect.signature(getattr(asks, name)).parameters), parameters)

    def test_kinds_of_values(self):
        for plan, kinds in ((END, [str, tuple, tuple]), (tree_plan(3), [str, int, tuple])):
            answer = judged(plan, 3, 2)
            self.assertIs(type(answer), tuple)
            self.assertEqual([type(part) for part in answer], kinds)
        for plan in (trimmed(tree_plan(2), 2, 2), tree_plan(2)):
            self.assertIs(type(plan), tuple)
            self.assertEqual([type(part) for part in plan], [str, tuple, tuple, tuple, tuple])


class Judged(unittest.TestCase):

    def test_one_station(self):
        self.assertEqual(judged(END, 1, 1), ("missed", (0,), (0,)))
        self.assertEqual(judged(ask((0,)), 1, 1), ("heard", 1, ()))
        # silent, noise is followed by nothing, heard by another ask
        self.assertEqual(judged(ask((0,), END, (ask((0,)),)), 1, 1), ("heard", 2, (0,)))

    def test_a_plan_that_asks_nobody(self):
        for many in range(1, 9):
            for most in range(1, many + 1):
                self.assertEqual(judged(END, many, most), ("missed", (0,), (0,)))

    def test_one_by_one(self):
        for many in range(1, 9):
            for most in range(1, many + 1):
                self.assertEqual(judged(one_by_one(*range(many)), many, most), ("heard", many, ()))

    def test_somebody_is_never_asked(self):
        self.assertEqual(judged(one_by_one(0, 2), 3, 1), ("missed", (1,), (1,)))
        self.assertEqual(judged(one_by_one(0), 3, 3), ("missed", (1,), (1,)))
        self.assertEqual(judged(ask((0, 1)), 3, 1), ("missed", (2,), (2,)))

    def test_the_first_set_and_all_that_it_misses(self):
        self.assertEqual(judged(ask((0, 1, 2)), 3, 1), ("heard", 1, ()))
        self.assertEqual(judged(ask((0, 1, 2)), 3, 3), ("missed", (0, 1), (0, 1)))
        plan = ask((0, 1, 2), noise=one_by_one(0))
        self.assertEqual(judged(plan, 3, 3), ("missed", (0, 1), (1,)))
        plan = ask((0, 1, 2), noise=one_by_one(0, 1))
        self.assertEqual(judged(plan, 3, 3), ("missed", (0, 2), (2,)))
        plan = ask((0, 1, 2), noise=one_by_one(1, 2))
        self.assertEqual(judged(plan, 3, 3), ("missed", (0, 1), (0,)))
        # only all three are missed: of (1, 2) and (0, 1, 2) the one of fewer is first
        plan = ask((0,), END, (ask((1, 2), noise=END),))
        self.assertEqual(judged(plan, 3, 1), ("missed", (1,), (1,)))
        plan = ask((0,), ask((1, 2), noise=one_by_one(1, 2)), (ask((1, 2), noise=END),))
        self.assertEqual(judged(plan, 3, 2), ("heard", 4, (1, 2)))
        self.assertEqual(judged(plan, 3, 3), ("missed", (0, 1, 2), (1, 2)))

    def test_more_than_so_many_do_not_count(self):
        plan = ask((0, 1, 2))
        self.assertEqual(judged(plan, 3, 1), ("heard", 1, ()))
        self.assertEqual(judged(plan, 3, 2), ("missed", (0, 1), (0, 1)))

    def test_a_station_that_is_asked_twice(self):
        # It was heard: at the second ask it is silent.
        plan = ask((0,), END, (ask((0, 1), noise=END),))
        self.assertEqual(judged(plan, 2, 2), ("missed", (1,), (1,)))
        plan = ask((0,), ask((1,)), (ask((0, 1)),))
        self.assertEqual(judged(plan, 2, 2), ("heard", 2, ()))
        # Behind noise it was not: it speaks again.
        plan = ask((0, 1), noise=ask((0,), ask((0, 1)), (ask((0, 1)),)))
        self.assertEqual(judged(plan, 2, 2), ("heard", 3, (0, 1)))
        self.assertEqual(judged(ask((0, 1), noise=ask((0, 1), noise=END)), 2, 2),
                         ("missed", (0, 1), (0, 1)))

    def test_behind_heard_the_plan_of_the_one_that_was_heard(self):
        # 0 asks for nobody more, 2 for all, 5 for 0 and 2.
        heards = (END, one_by_one(0, 1, 2, 3), one_by_one(0, 2))
        self.assertEqual(judged(ask((0, 2, 5), END, heards), 6, 1), ("missed", (1,), (1,)))
        everyone = one_by_one(*range(6))
        plan = ask((0, 2, 5), everyone, heards, everyone)
        self.assertEqual(judged(plan, 6, 1), ("heard", 7, ()))
        self.assertEqual(judged(plan, 6, 2), ("missed", (0, 1), (1,)))
        plan = ask((0, 2, 5), everyone, (everyone, heards[1], everyone), everyone)
        self.assertEqual(judged(plan, 6, 2), ("missed", (2, 4), (4,)))

    def test_the_first_set_that_takes_so_many(self):
        self.assertEqual(judged(tree_plan(2), 2, 1), ("heard", 1, ()))
        self.assertEqual(judged(tree_plan(2), 2, 2), ("heard", 3, (0, 1)))
        plan = ask((0, 1), END, (one_by_one(0, 1), one_by_one(0, 1)), one_by_one(0, 1))
        self.assertEqual(judged(plan, 2, 1), ("heard", 3, (0,)))
        self.assertEqual(judged(plan, 2, 2), ("heard", 3, (0,)))

    def test_those_of_fewer_are_ahead(self):
        # (1,), (0, 1) and (0, 1, 2) take two asks, all others one.
        plan = ask((1,), ask((0,), ask((2,)), (ask((2,)),)), (ask((0, 2), noise=END),))
        self.assertEqual(judged(plan, 3, 1), ("heard", 3, ()))
        plan = ask((0, 1, 2), END, (END, ask((0,)), END), one_by_one(0, 1, 2))
        self.assertEqual(judged(plan, 3, 1), ("heard", 2, (1,)))
        self.assertEqual(judged(plan, 3, 3), ("heard", 4, (0, 1)))

    def test_beside_the_model(self):
        chance = random.Random(41)
        words = set()
        for _ in range(1500):
            many = chance.randint(1, 6)
            most = chance.randint(1, many)
            plan = some_plan(chance, many, chance.randint(0, 4))
            if chance.random() < 0.5:
                plan = ask(tuple(range(many)), plan, (plan,) * many, tree_plan(many))
            answer = judged(plan, many, most)
            words.add(answer[0])
            self.assertEqual(answer, model_judged(plan, many, most), (plan, many, most))
        self.assertEqual(words, {"missed", "heard"})


class Trimmed(unittest.TestCase):

    def trims_to(self, plan, many, most, answer):
        self.assertEqual(trimmed(plan, many, most), answer)
        self.assertEqual(trimmed(answer, many, most), answer)

    def test_an_end(self):
        for many in range(1, 9):
            self.trims_to(END, many, many, END)

    def test_nothing_is_idle(self):
        for plan in (ask((0,)), one_by_one(1), ask((0, 2)), ask((1,), ask((0, 2)), (END,))):
            self.trims_to(plan, 3, 1, plan)
        for plan in (ask((0,)), one_by_one(1), one_by_one(0, 1, 2), one_by_one(2, 0)):
            self.trims_to(plan, 3, 3, plan)

    def test_behind_heard_of_one_alone_all_others_are_silent(self):
        answer = ask((0,), ask((1,), ask((2,)), (END,)), (END,))
        self.trims_to(one_by_one(0, 1, 2), 3, 1, answer)

    def test_an_ask_that_is_silent_with_each_set(self):
        self.trims_to(ask((0,), ask((0,)), (ask((0,)),)), 1, 1, ask((0,)))
        # what it goes on with behind silent stands in its place
        plan = ask((0,), END, (ask((0,), ask((1,)), (ask((2,)),)),))
        self.trims_to(plan, 3, 3, ask((0,), END, (ask((1,)),)))
        # and behind that the same again
        plan = ask((0,), END, (ask((0,), ask((0,), ask((1,)))),))
        self.trims_to(plan, 2, 2, ask((0,), END, (ask((1,)),)))

    def test_an_ask_that_is_noise_with_each_set(self):
        # Behind noise of 0 and 1 both are awake and not heard yet.
        left = ask((0,), END, (ask((1,)),))
        plan = ask((0, 1), noise=ask((0, 1), noise=left))
        self.trims_to(plan, 2, 2, ask((0, 1), noise=left))
        plan = ask((0, 1), noise=ask((0, 1), ask((0,)), (ask((1,)),) * 2, ask((0, 1), noise=left)))
        self.trims_to(plan, 2, 2, ask((0, 1), noise=left))

    def test_noise_may_be_of_others(self):
        # Behind noise of three it may be 0 and 2, or 1 and 2: noise of 0 and 1 with some alone.
        plan = ask((0, 1, 2), noise=ask((0, 1)))
        self.trims_to(plan, 3, 3, plan)
        self.trims_to(plan, 3, 2, plan)

    def test_an_ask_that_is_heard_with_each_set_is_not_idle(self):
        # Behind noise of 0 and 1 each of them is heard for sure.
        plan = ask((0, 1), noise=one_by_one(0, 1))
        self.trims_to(plan, 2, 2, ask((0, 1), noise=ask((0,), END, (ask((1,)),))))

    def test_what_no_set_comes_to(self):
        # behind noise of one station, and of more than speak
        self.trims_to(ask((0,), noise=one_by_one(0, 1)), 2, 2, ask((0,)))
        self.trims_to(tree_plan(2), 2, 1, ask((0, 1)))
        self.trims_to(tree_plan(2), 2, 2,
                      ask((0, 1), noise=ask((0,), END, (ask((1,)),))))

    def test_silent_with_some_and_noise_with_others_is_not_idle(self):
        # Of at most three, only (0, 1, 2) and (2, 3, 4) make noise four times.
        def behind_noise(part):
            for numbers in ((1, 2, 4), (1, 2, 3), (0, 2, 4), (0, 2, 3)):
                part = ask(numbers, noise=part)
            return part
        plan = behind_noise(ask((0, 1), ask((3,)), (END, END), ask((0,))))
        self.trims_to(plan, 5, 3, plan)
        idle = behind_noise(ask((2, 3, 4), ask((0,)), (ask((1,)), END, END), ask((2,))))
        self.trims_to(idle, 5, 3, behind_noise(ask((2, 3, 4), END, (ask((1,)), END, END), ask((2,)))))

    def test_for_the_same_sets_only(self):
        plan = tree_plan(4)
        for most in (1, 2, 3, 4):
            answer = trimmed(plan, 4, most)
            self.assertEqual(answer, model_trimmed(plan, 4, most))
            if most == 1:
                self.assertEqual(answer, ask((0, 1, 2, 3)))
        self.assertNotEqual(trimmed(plan, 4, 2), trimmed(plan, 4, 3))

    def test_a_plan_that_misses_somebody(self):
        self.trims_to(ask((1,), ask((1,)), (ask((1,)),)), 3, 3, ask((1,)))

    def test_beside_the_model(self):
        chance = random.Random(42)
        shorter = 0
        for _ in range(1500):
            many = chance.randint(1, 5)
            most = chance.randint(1, many)
            plan = some_plan(chance, many, chance.randint(0, 4))
            answer = trimmed(plan, many, most)
            self.trims_to(plan, many, most, model_trimmed(plan, many, most))
            shorter += answer != plan
            for group in all_sets(many, most):
                told, left = walk(plan, group)
                fewer, same = walk(answer, group)
                self.assertEqual(same, left)
                self.assertLessEqual(len(fewer), len(told))
        self.assertGreater(shorter, 500)


class TreePlan(unittest.TestCase):

    def test_one_station(self):
        self.assertEqual(tree_plan(1), ("ask", (0,), END, (END,), END))

    def test_two_stations(self):
        other = ("ask", (1,), END, (END,), END)
        noise = ("ask", (0,), other, (other,), END)
        self.assertEqual(tree_plan(2), ("ask", (0, 1), END, (END, END), noise))

    def test_three_stations(self):
        last = ask((2,))
        second = ask((1,), last)
        noise = ask((0, 1), last, noise=ask((0,), second))
        self.assertEqual(tree_plan(3), ask((0, 1, 2), noise=noise))

    def test_of_the_odd_ones_the_first_half_has_one_more(self):
        self.assertEqual(tree_plan(5)[4][1], (0, 1, 2))
        self.assertEqual(tree_plan(5)[4][2][1], (3, 4))
        self.assertEqual(tree_plan(5)[4][4][1], (0, 1))
        self.assertEqual(tree_plan(7)[4][1], (0, 1, 2, 3))
        self.assertEqual(tree_plan(7)[4][2][1], (4, 5, 6))
        self.assertEqual(tree_plan(7)[4][2][4][1], (4, 5))

    def test_all_are_heard(self):
        for many in range(1, 9):
            for most in range(1, many + 1):
                self.assertEqual(judged(tree_plan(many), many, most)[0], "heard")
            self.assertEqual(judged(tree_plan(many), many, 1), ("heard", 1, ()))
            self.assertEqual(judged(tree_plan(many), many, many)[1], 2 * many - 1)

    def test_each_ask(self):
        def goes(plan, groups):
            if not groups:
                self.assertEqual(plan, END)
                return
            group, left = groups[0], groups[1:]
            self.assertEqual(plan[:2], ("ask", group))
            self.assertEqual(len(plan[3]), len(group))
            for part in {plan[2], *plan[3]}:
                goes(part, left)
            half = len(group) - len(group) // 2
            if len(group) == 1:
                self.assertEqual(plan[4], END)
            else:
                goes(plan[4], [group[:half], group[half:]] + left)
        for many in range(1, 9):
            goes(tree_plan(many), [tuple(range(many))])


class Refused(unittest.TestCase):

    def refused(self, why, plan, many=3):
        for most in (1, many):
            for call in (judged, trimmed):
                with self.assertRaises(BadPlan) as caught:
                    call(plan, many, most)
                self.assertEqual(caught.exception.why, why, plan)

    WRONG = {
        "word": [(), ("",), ("End",), ("ends",), ("ask",), ("end", END), ("end", (0,)),
                 ("ask", (0,), END, (END,)), ("ask", (0,), END, (END,), END, END), ("ask", (0,)),
                 ("asks", (0,), END, (END,), END), ("end", (0,), END, (END,), END), (0,)],
        "numbers": [ask(()), ask((3,)), ask((-1,)), ask((0, 3)), ask((0, 0)), ask((1, 0)),
                    ask((0, 2, 1)), ask((0, 1, 1)), ask((True,)), ask((0, True)), ask((False, 1)),
                    ask((None,)), ask(("0",)), ask((0, 1, 2, 3))],
        "plans": [ask((0,), END, ()), ask((0,), END, (END, END)), ask((0, 1), END, (END,)),
                  ask((0, 1, 2), END, (END, END)), ask((0, 1), END, (END,) * 3)],
    }

    def test_plans_that_are_none(self):
        for why, plans in self.WRONG.items():
            for plan in plans:
                self.refused(why, plan)

    def test_a_plan_among_those_that_one_goes_on_with(self):
        for why, plans in self.WRONG.items():
            for plan in plans:
                self.refused(why, ask((0,), plan, (END,)))
                self.refused(why, ask((0, 1), END, (END, plan)))
                self.refused(why, ask((2,), END, noise=plan))
                self.refused(why, ask((2,), END, noise=ask((0, 1), END, (plan, END))))

    def test_the_first_thing_that_is_wrong_with_a_plan(self):
        self.refused("word", ("asks", (), END, (), END))
        self.refused("word", ("ask", (), END, (END,)))
        self.refused("numbers", ("ask", (), END, (END,), END))
        self.refused("numbers", ("ask", (5,), END, (), END))
        self.refused("numbers", ("ask", (1, 0), ("x",), (), ("x",)))
        self.refused("plans", ("ask", (0, 1), ("x",), (END,), ("x",)))

    def test_a_plan_is_ahead_of_those_that_it_goes_on_with(self):
        for part in (("x",), ask(()), ask((0,), END, ())):
            self.refused("plans", ask((0,), part, ()))
            self.refused("numbers", ask((4,), part, (part,), part))

    def test_in_the_order_told(self):
        word, numbers, plans = ("x",), ask(()), ask((0,), END, ())
        for first, second in itertools.permutations([("word", word), ("numbers", numbers), ("plans", plans)], 2):
            self.refused(first[0], ask((0,), first[1], (second[1],)))
            self.refused(first[0], ask((0,), first[1], noise=second[1]))
            self.refused(first[0], ask((0, 1), END, (first[1], second[1])))
            self.refused(first[0], ask((0,), END, (first[1],), second[1]))
            # all that lies within one plan is ahead of the next one
            deep = ask((0,), END, (END,), ask((1,), END, (END,), first[1]))
            self.refused(first[0], ask((0,), deep, (second[1],)))
            self.refused(first[0], ask((0,), END, (deep,), second[1]))
            self.refused(first[0], ask((0, 1), END, (deep, second[1])))

    def test_twenty_asks_within_one_another(self):
        silent = END
        for many_asks in range(1, 21):
            silent = ask((0,), silent, (END,))
            self.assertEqual(judged(silent, 1, 1), ("heard", many_asks, ()))
            self.assertEqual(trimmed(silent, 1, 1), ask((0,)))
            heard = ask((0,), END, (nested(many_asks - 1),))
            self.assertEqual(judged(heard, 1, 1)[0], "heard")
            noise = ask((0,), noise=nested(many_asks - 1))
            self.assertEqual(judged(noise, 1, 1), ("heard", 1, ()))
            self.assertEqual(trimmed(noise, 1, 1), ask((0,)))

    def test_twenty_one_asks_within_one_another(self):
        for many_asks in (21, 22, 23, 30):
            self.refused("deep", nested(many_asks))
            self.refused("deep", ask((1,), END, (nested(many_asks - 1),)))
        self.refused("deep", nested(21, (0, 1, 2)))
        for steps in (lambda plan: (plan, END, END), lambda plan: (END, plan, END), lambda plan: (END, END, plan)):
            plan = END
            for _ in range(21):
                silent, heard, noise = steps(plan)
                plan = ask((0,), silent, (heard,), noise)
            self.refused("deep", plan)

    def test_asks_beside_one_another_are_not_within(self):
        part = nested(19)
        self.assertEqual(judged(ask((0,), part, (part,), part), 1, 1)[0], "heard")

    def test_deep_is_behind_all_else(self):
        deep = nested(25)
        for why, plans in self.WRONG.items():
            for plan in plans:
                self.refused(why, ask((0,), deep, (END,), plan))
                self.refused(why, ask((0,), deep, (plan,)))
        for why, plan in (("word", ("x",)), ("numbers", ask((7,))), ("plans", ask((0,), END, ()))):
            for _ in range(24):
                plan = ask((0,), END, (plan,))
            self.refused(why, plan)

    def test_numbers_are_ahead_of_plans(self):
        wrong = [("x",), ask(()), nested(21)]
        for many, most in ((0, 1), (-1, 1), (9, 1), (True, 1), (1, 0), (3, 4), (3, -1), (3, True),
                           (3, False), (3, 0), (8, 9), (8, 100)):
            for plan in [*wrong, END]:
                for call in (judged, trimmed):
                    self.assertRaises(BadNumber, call, plan, many, most)

    def test_numbers_of_stations_of_a_tree_plan(self):
        for many in (0, -1, 9, 100, True, False, None):
            self.assertRaises(BadNumber, tree_plan, many)


class AskedAgain(unittest.TestCase):

    def test_the_same_answer_in_any_order(self):
        plans = [tree_plan(3), one_by_one(0, 1, 2), END, ask((0, 1), noise=one_by_one(0, 1))]
        calls = [(call, plan, most) for call in (judged, trimmed) for plan in plans for most in (1, 2, 3)]
        first = [call(plan, 3, most) for call, plan, most in calls]
        again = [call(plan, 3, most) for call, plan, most in calls[::-1]]
        self.assertEqual(first, again[::-1])
        self.assertEqual([tree_plan(many) for many in (3, 1, 3)], [plans[0], tree_plan(1), plans[0]])


if __name__ == "__main__":
    unittest.main()
