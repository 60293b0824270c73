"""Rows by which each is alone somewhere, and the shortest of them for two."""

import inspect
import itertools
import random
import unittest

from oneair import rows as module
from oneair.errors import BadNumber, BadRule
from oneair.playing import times
from oneair.rows import two, unheard


def first_unheard(rows, most):
    """The same by columns: who has a 1 while all others of the set have none."""
    for size in range(1, most + 1):
        for group in itertools.combinations(range(len(rows)), size):
            columns = list(zip(*[rows[number] for number in group]))
            for place, number in enumerate(group):
                alone = tuple("1" if other == place else "0" for other in range(size))
                if alone not in columns:
                    return group, number
    return None


def within(row, other):
    """Whether the other row has a 1 wherever this one has it."""
    return all(theirs == "1" for ours, theirs in zip(row, other) if ours == "1")


def all_texts(length):
    return ["".join(signs) for signs in itertools.product("01", repeat=length)]


class Interface(unittest.TestCase):

    def test_defined_where_they_are_listed(self):
        for name, parameters in (("unheard", ["rows", "most"]), ("two", ["many"])):
            self.assertEqual(getattr(module, name).__module__, "oneair.rows")
            self.assertEqual(list(inspect.signature(getattr(module, name)).parameters), parameters)

    def test_kinds_of_values(self):
        answer = unheard(("0",), 1)
        self.assertIs(type(answer), tuple)
        self.assertEqual([type(part) for part in answer], [tuple, int])
        answer = two(3)
        self.assertIs(type(answer), tuple)
        self.assertEqual([type(part) for part in answer], [tuple, list])
        self.assertEqual([type(part) for part in answer[1]], [list, list])


class Unheard(unittest.TestCase):

    def test_one_station(self):
        self.assertIsNone(unheard(("1",), 1))
        self.assertIsNone(unheard(("000000000001",), 1))
        self.assertEqual(unheard(("0",), 1), ((0,), 0))
        self.assertEqual(unheard(("0" * 12,), 1), ((0,), 0))

    def test_of_one_speaker_a_1_is_enough(self):
        self.assertIsNone(unheard(("1",) * 8, 1))
        self.assertEqual(unheard(("1", "1", "0", "1", "0"), 1), ((2,), 2))

    def test_rows_of_one_sign(self):
        self.assertEqual(unheard(("1", "1"), 2), ((0, 1), 0))
        self.assertEqual(unheard(("1", "0"), 2), ((1,), 1))

    def test_rows_of_twelve_signs(self):
        rows = tuple("0" * number + "1" + "0" * (11 - number) for number in range(8))
        for most in range(1, 9):
            self.assertIsNone(unheard(rows, most))
        self.assertEqual(unheard(rows[:7] + ("1" * 12,), 2), ((0, 7), 0))
        self.assertEqual(unheard(("1" * 12,) + rows[1:], 2), ((0, 1), 1))

    def test_a_row_within_another_one(self):
        self.assertEqual(unheard(("011", "010"), 2), ((0, 1), 1))
        self.assertEqual(unheard(("010", "011"), 2), ((0, 1), 0))
        self.assertEqual(unheard(("01", "10", "10"), 2), ((1, 2), 1))
        self.assertIsNone(unheard(("011", "010"), 1))

    def test_among_three_one_is_alone_nowhere(self):
        rows = ("110", "101", "011")
        self.assertIsNone(unheard(rows, 2))
        self.assertEqual(unheard(rows, 3), ((0, 1, 2), 0))
        # 2 is covered by 0 and 1, who each have a place of their own.
        self.assertEqual(unheard(("1010", "0101", "0011"), 3), ((0, 1, 2), 2))
        self.assertEqual(unheard(("1010", "0011", "0101"), 3), ((0, 1, 2), 1))

    def test_the_order_of_sets(self):
        # 1 within 2, and 0 within 3
        self.assertEqual(unheard(("0010", "0100", "0101", "1010"), 4), ((0, 3), 0))
        # three of which one is alone nowhere are behind two of which one is
        self.assertEqual(unheard(("110", "101", "011", "011"), 3), ((2, 3), 2))

    def test_beside_columns(self):
        chance = random.Random(31)
        for _ in range(2000):
            many = chance.randint(1, 8)
            length = chance.randint(1, 12)
            dense = chance.choice(["01", "001", "0001"])
            rows = tuple("".join(chance.choice(dense) for _ in range(length)) for _ in range(many))
            most = chance.randint(1, many)
            self.assertEqual(unheard(rows, most), first_unheard(rows, most), (rows, most))

    def test_played_each_is_heard_in_fewer_moments_than_rows_are_long(self):
        chance = random.Random(32)
        tried = 0
        while tried < 150:
            many = chance.randint(1, 6)
            length = chance.randint(many, 12)
            rows = tuple("".join(chance.choice("001") for _ in range(length)) for _ in range(many))
            most = max([0] + [most for most in range(1, many + 1) if unheard(rows, most) is None])
            if most == 0:
                continue
            tried += 1
            for _ in range(10):
                speakers = chance.sample(range(many), chance.randint(1, most))
                wakes = {number: chance.randint(0, 40) for number in speakers}
                heard = times(("rows", rows), many, wakes)
                self.assertEqual(set(heard), set(wakes))
                for number in wakes:
                    self.assertLess(heard[number] - wakes[number], length)

    def test_played_two_at_all_moments(self):
        for many in range(2, 9):
            rows = two(many)[0]
            for one, other in itertools.combinations(range(many), 2):
                for later in range(len(rows[0])):
                    for wakes in ({one: 0, other: later}, {one: later, other: 0}):
                        heard = times(("rows", rows), many, wakes)
                        for number in wakes:
                            self.assertLess(heard[number] - wakes[number], len(rows[0]))


class Two(unittest.TestCase):

    def test_one_station(self):
        self.assertEqual(two(1), (("1",), []))

    def test_two_stations(self):
        self.assertEqual(two(2), (("01", "10"), [["0", "1"]]))

    def test_how_long_they_are(self):
        lengths = [len(two(many)[0][0]) for many in range(1, 9)]
        self.assertEqual(lengths, [1, 2, 3, 4, 4, 4, 5, 5])

    def test_rows(self):
        for many in range(1, 9):
            rows = two(many)[0]
            self.assertEqual(len(rows), many)
            self.assertEqual(list(rows), sorted(set(rows)))
            self.assertEqual({len(row) for row in rows}, {len(rows[0])})
            for row, other in itertools.permutations(rows, 2):
                self.assertFalse(within(row, other))
            self.assertIsNone(unheard(rows, min(2, many)))

    def test_chains(self):
        for many in range(2, 9):
            rows, chains = two(many)
            self.assertLess(len(chains), many)
            for chain in chains:
                self.assertGreater(len(chain), 0)
                for text, behind in zip(chain, chain[1:]):
                    self.assertTrue(within(text, behind))
                    self.assertEqual(behind.count("1"), text.count("1") + 1)
            texts = [text for chain in chains for text in chain]
            self.assertEqual(sorted(texts), all_texts(len(rows[0]) - 1))

    def test_none_are_shorter(self):
        for many in (2, 3, 4):
            for length in range(1, len(two(many)[0][0])):
                for rows in itertools.combinations(all_texts(length), many):
                    self.assertIsNotNone(unheard(rows, 2))

    def test_two_of_a_chain(self):
        # The lesser one is alone nowhere.
        for chain in two(7)[1]:
            for lesser, greater in itertools.combinations(chain, 2):
                self.assertEqual(unheard((greater, lesser), 2), (((0, 1), 1)
                                 if "1" in lesser else ((1,), 1)))


class Refused(unittest.TestCase):

    def test_numbers_of_stations(self):
        for many in (0, -1, 9, 100, True, False, None):
            self.assertRaises(BadNumber, two, many)
        self.assertRaises(BadNumber, unheard, (), 1)
        self.assertRaises(BadNumber, unheard, (), 0)
        self.assertRaises(BadNumber, unheard, ("1",) * 9, 1)
        self.assertRaises(BadNumber, unheard, ("1",) * 100, 9)
        self.assertEqual(unheard(("1",) * 8, 2), ((0, 1), 0))

    def test_numbers_of_speakers(self):
        for many in range(1, 9):
            for most in (0, -1, many + 1, 9, 100, True, False, None):
                self.assertRaises(BadNumber, unheard, ("1",) * many, most)

    def test_rows(self):
        for rows in (("",), ("2",), ("01 ",), ("0" * 13,), ("01", "1"), ("1", ""), ("01", "0x"),
                     ("", ""), ("1", "1", "11"), (1, 1)):
            with self.assertRaises(BadRule) as caught:
                unheard(rows, 1)
            self.assertEqual(caught.exception.why, "rows")

    def test_numbers_are_ahead_of_rows(self):
        for rows, most in ((("",) * 9, 1), (("",), 0), (("x", "yy"), 3), (("1", "11"), True)):
            self.assertRaises(BadNumber, unheard, rows, most)


class AskedAgain(unittest.TestCase):

    def test_behind_a_change_of_what_was_told(self):
        kept = {many: repr(two(many)) for many in range(1, 9)}
        for many in (*range(8, 0, -1), 5, 3):
            chains = two(many)[1]
            for chain in chains:
                chain.clear()
            chains.append("more")
            self.assertEqual(repr(two(many)), kept[many])

    def test_chains_are_lists_of_their_own(self):
        for many in range(2, 9):
            chains = two(many)[1]
            chains[0].append("more")
            self.assertEqual([chain for chain in chains if "more" in chain], chains[:1])

    def test_the_same_answer_in_any_order(self):
        rows = [("110", "101", "011"), ("011", "010"), ("1", "0", "1")]
        first = [unheard(group, most) for group in rows for most in (1, 2)]
        again = [unheard(group, most) for group in rows[::-1] for most in (2, 1)]
        self.assertEqual(first, again[::-1])


if __name__ == "__main__":
    unittest.main()
