"""The five promises, from the program's answers alone."""

import unittest
from itertools import combinations

from helper import (SPREAD_ROWS, SPREAD_WAYS, ask, beaten_by, cover, cube, groups, least, load, mixed_numbers,
                    sets_in_order, small_lists, sub, text_of, told)


def sets_told(answer):
    """The least sets that an answer of least tells."""
    sets = []
    at = 1
    for turn in range(answer[0]):
        sets.append(answer[at + 1:at + 1 + answer[at]])
        at += 1 + answer[at]
    return sets


def stored_told(answer):
    """For each set, as a tuple, the items that an answer of cube tells as stored for it."""
    stored = {}
    at = 3
    for turn in range(answer[0]):
        chosen = tuple(answer[at + 1:at + 1 + answer[at]])
        at += 1 + answer[at]
        stored[chosen] = answer[at + 1:at + 1 + answer[at]]
        at += 1 + answer[at]
    return stored


def best_told(answer):
    """The items that an answer of groups tells as a group's best, and those it tells as unbeaten among them."""
    groups_best = []
    at = 1
    for turn in range(answer[0]):
        groups_best += answer[at + 2:at + 2 + answer[at + 1]]
        at += 2 + answer[at + 1]
    return groups_best, answer[at + 1:at + 1 + answer[at]]


def enough(some, best, k):
    """Whether some are at least 1 less (1 less a k-th) to the k-th power of the best, in whole numbers."""
    return some * k ** k >= best * (k ** k - (k - 1) ** k)


class Answered:
    """What sub, ask, least and cube answer for one list."""

    def __init__(self, ways, rows):
        sets = sets_in_order(len(ways))
        items = range(len(rows))
        text = load(text_of(ways, rows))
        answered = told(text, *[sub(*chosen) for chosen in sets], *[least(item) for item in items], cube())
        asked = told(text, *[ask(*chosen) for chosen in sets])
        self.best = {tuple(chosen): set(answer[1:]) for chosen, answer in zip(sets, answered[1:])}
        self.asked = {tuple(chosen): answer for chosen, answer in zip(sets, asked[1:])}
        self.least = [sets_told(answer) for answer in answered[1 + len(sets):-1]]
        self.stored = stored_told(answered[-1])
        self.rows = rows
        self.ways = ways

    def beats(self, one, other, chosen):
        gains = [(self.rows[one][m] - self.rows[other][m]) * (1 if self.ways[m] == "up" else -1) for m in chosen]
        return min(gains) >= 0 and max(gains) > 0

    def same(self, one, other, chosen):
        return all(self.rows[one][m] == self.rows[other][m] for m in chosen)


class PromisesTest(unittest.TestCase):

    @classmethod
    def setUpClass(cls):
        cls.lists = [Answered(ways, rows) for ways, rows in small_lists() if len(rows) > 0]

    def test_1_the_stored_items_within_a_set_hold_its_best(self):
        for answered in self.lists:
            for chosen, best in answered.best.items():
                within = {item for other, items in answered.stored.items() if set(other) <= set(chosen)
                          for item in items}
                unbeaten = {item for item in within
                            if not any(answered.beats(other, item, chosen) for other in within)}
                self.assertEqual(unbeaten, best)

    def test_1_what_is_asked_is_what_is_unbeaten(self):
        for answered in self.lists:
            for chosen, best in answered.best.items():
                self.assertEqual(answered.asked[chosen][1:], [len(best), *sorted(best)])

    def test_1_the_candidates_are_those_stored_within(self):
        for answered in self.lists:
            for chosen, answer in answered.asked.items():
                within = {item for other, items in answered.stored.items() if set(other) <= set(chosen)
                          for item in items}
                self.assertEqual(answer[0], len(within))

    def test_1_stored_is_what_least_tells(self):
        for answered in self.lists:
            for chosen, items in answered.stored.items():
                self.assertEqual(items, [item for item, sets in enumerate(answered.least) if list(chosen) in sets])

    def test_2_unbeaten_by_each_least_set(self):
        for answered in self.lists:
            for item, sets in enumerate(answered.least):
                for chosen in sets:
                    self.assertIn(item, answered.best[tuple(chosen)])

    def test_2_no_least_set_within_another(self):
        for answered in self.lists:
            for sets in answered.least:
                for chosen in sets:
                    self.assertEqual([other for other in sets if set(other) <= set(chosen)], [chosen])

    def test_2_each_set_by_which_it_is_has_a_least_one_within(self):
        for answered in self.lists:
            for item, sets in enumerate(answered.least):
                for chosen, best in answered.best.items():
                    if item in best:
                        self.assertTrue(any(set(other) <= set(chosen) for other in sets))

    def test_3_who_leaves_is_the_same_as_who_beats_it(self):
        for answered in self.lists:
            for fewer, best in answered.best.items():
                for more, still in answered.best.items():
                    if set(fewer) < set(more):
                        self.check_leavers(answered, fewer, more, best - still)

    def check_leavers(self, answered, fewer, more, leavers):
        for item in leavers:
            self.assertTrue(any(answered.beats(other, item, more) and answered.same(other, item, fewer)
                                for other in range(len(answered.rows))))

    def test_3_nobody_leaves_where_no_values_are_the_same(self):
        rows = [[number * 3 % 16, number * 5 % 16, number * 7 % 16, number * 11 % 16] for number in range(16)]
        answered = Answered(["up", "down", "down", "up"], rows)
        for fewer, best in answered.best.items():
            for more, still in answered.best.items():
                if set(fewer) <= set(more):
                    self.assertLessEqual(best, still)

    def test_4_who_is_unbeaten_among_all_is_among_the_groups_best(self):
        numbers = mixed_numbers(5)
        for answered in self.lists:
            everyone = range(len(answered.rows))
            for most in 1, 2, 4, 10:
                group_of = [next(numbers) % most for item in everyone]
                answer = told(load(text_of(answered.ways, answered.rows)), groups(*group_of))[1]
                groups_best, unbeaten = best_told(answer)
                best = answered.best[tuple(range(len(answered.ways)))]
                self.assertLessEqual(best, set(groups_best))
                self.assertEqual(unbeaten, sorted(best))

    def test_4_a_group_of_its_own_for_each(self):
        rows = [[number * 3 % 10, number * 7 % 10] for number in range(10)]
        answer = told(load(text_of(["up", "up"], rows)), groups(*range(10)), sub(0, 1))
        groups_best, unbeaten = best_told(answer[1])
        self.assertEqual(groups_best, list(range(10)))
        self.assertEqual([len(unbeaten), *unbeaten], answer[2])

    def test_5_the_best_are_the_best_and_step_by_step_is_nearly_as_good(self):
        fewer = 0
        for ways, rows in [(answered.ways, answered.rows) for answered in self.lists]:
            sizes = range(1, min(4, len(rows)) + 1)
            answer = told(load(text_of(ways, rows)), *[cover(k) for k in sizes])
            for k, (best, *rest) in zip(sizes, answer[1:]):
                chosen, step, taken = rest[:k], rest[k], rest[k + 1:]
                self.check_cover(ways, rows, best, chosen)
                self.check_cover(ways, rows, step, taken)
                self.assertTrue(enough(step, best, k))
                self.assertLessEqual(step, best)
                self.assertEqual((len(chosen), len(taken)), (k, k))
                fewer += step < best
        self.assertGreater(fewer, 0)

    def check_cover(self, ways, rows, count, some):
        self.assertEqual(len(set(some)), len(some))
        self.assertEqual(len(beaten_by(ways, rows, some)), count)

    def test_5_no_others_beat_more(self):
        for ways, rows in [(answered.ways, answered.rows) for answered in self.lists[::30]]:
            alone = [beaten_by(ways, rows, [item]) for item in range(len(rows))]
            for k in range(1, min(4, len(rows)) + 1):
                best = told(load(text_of(ways, rows)), cover(k))[1][0]
                for some in combinations(alone, k):
                    self.assertLessEqual(len(set().union(*some)), best)

    def test_5_no_less_than_told_where_it_is_least(self):
        answer = told(load(text_of(SPREAD_WAYS, SPREAD_ROWS)), cover(2))[1]
        self.assertEqual((answer[0], answer[3]), (4, 3))
        self.assertTrue(enough(3, 4, 2))
        self.assertFalse(enough(2, 4, 2))


if __name__ == "__main__":
    unittest.main()
