"""The promises 2 and 3, and 1 as far as it says what cube tells as stored; from the program's answers alone."""

import unittest

from helper import cube, least, load, sets_in_order, small_lists, sub, text_of, told


def sets_told(answer):
    """The least sets that an answer of least tells."""
    sets = []
    at = 1
    for turn in range(answer[0]):
        sets.append(answer[at + 1:at + 1 + answer[at]])
        at += 1 + answer[at]
    return sets


def stored_told(answer):
    """For each set, as a tuple, the items that an answer of cube tells as stored for it."""
    stored = {}
    at = 3
    for turn in range(answer[0]):
        chosen = tuple(answer[at + 1:at + 1 + answer[at]])
        at += 1 + answer[at]
        stored[chosen] = answer[at + 1:at + 1 + answer[at]]
        at += 1 + answer[at]
    return stored


class Answered:
    """What sub, least and cube answer for one list."""

    def __init__(self, ways, rows):
        sets = sets_in_order(len(ways))
        items = range(len(rows))
        answered = told(load(text_of(ways, rows)), *[sub(*chosen) for chosen in sets],
                        *[least(item) for item in items], cube())
        self.best = {tuple(chosen): set(answer[1:]) for chosen, answer in zip(sets, answered[1:])}
        self.least = [sets_told(answer) for answer in answered[1 + len(sets):-1]]
        self.stored = stored_told(answered[-1])
        self.rows = rows
        self.ways = ways

    def beats(self, one, other, chosen):
        gains = [(self.rows[one][m] - self.rows[other][m]) * (1 if self.ways[m] == "up" else -1) for m in chosen]
        return min(gains) >= 0 and max(gains) > 0

    def same(self, one, other, chosen):
        return all(self.rows[one][m] == self.rows[other][m] for m in chosen)


class PromisesTest(unittest.TestCase):

    @classmethod
    def setUpClass(cls):
        cls.lists = [Answered(ways, rows) for ways, rows in small_lists() if len(rows) > 0]

    def test_1_the_stored_items_within_a_set_hold_its_best(self):
        for answered in self.lists:
            for chosen, best in answered.best.items():
                within = {item for other, items in answered.stored.items() if set(other) <= set(chosen)
                          for item in items}
                unbeaten = {item for item in within
                            if not any(answered.beats(other, item, chosen) for other in within)}
                self.assertEqual(unbeaten, best)

    def test_1_stored_is_what_least_tells(self):
        for answered in self.lists:
            for chosen, items in answered.stored.items():
                self.assertEqual(items, [item for item, sets in enumerate(answered.least) if list(chosen) in sets])

    def test_2_unbeaten_by_each_least_set(self):
        for answered in self.lists:
            for item, sets in enumerate(answered.least):
                for chosen in sets:
                    self.assertIn(item, answered.best[tuple(chosen)])

    def test_2_no_least_set_within_another(self):
        for answered in self.lists:
            for sets in answered.least:
                for chosen in sets:
                    self.assertEqual([other for other in sets if set(other) <= set(chosen)], [chosen])

    def test_2_each_set_by_which_it_is_has_a_least_one_within(self):
        for answered in self.lists:
            for item, sets in enumerate(answered.least):
                for chosen, best in answered.best.items():
                    if item in best:
                        self.assertTrue(any(set(other) <= set(chosen) for other in sets))

    def test_3_who_leaves_is_the_same_as_who_beats_it(self):
        for answered in self.lists:
            for fewer, best in answered.best.items():
                for more, still in answered.best.items():
                    if set(fewer) < set(more):
                        self.check_leavers(answered, fewer, more, best - still)

    def check_leavers(self, answered, fewer, more, leavers):
        for item in leavers:
            self.assertTrue(any(answered.beats(other, item, more) and answered.same(other, item, fewer)
                                for other in range(len(answered.rows))))

    def test_3_nobody_leaves_where_no_values_are_the_same(self):
        rows = [[number * 3 % 16, number * 5 % 16, number * 7 % 16, number * 11 % 16] for number in range(16)]
        answered = Answered(["up", "down", "down", "up"], rows)
        for fewer, best in answered.best.items():
            for more, still in answered.best.items():
                if set(fewer) <= set(more):
                    self.assertLessEqual(best, still)


if __name__ == "__main__":
    unittest.main()
