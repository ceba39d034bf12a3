"""ask: how many candidates a set of measures has, the items unbeaten among them, and the refusal -3."""

import unittest
from itertools import permutations

from helper import (CROSSED_ROWS, FAR, TWIN_ROWS, WORKED, ask, counted, last, load, sets_in_order, shown, small_lists,
                    sub, text_of, told, unbeaten)


def candidates(ways, rows, chosen):
    """Who is unbeaten by a set within this one: that has a least one within."""
    within = [some for some in sets_in_order(len(ways)) if set(some) <= set(chosen)]
    best = [unbeaten(ways, rows, range(len(rows)), some) for some in within]
    return [item for item in range(len(rows)) if any(item in items for items in best)]


def ask_by_hand(ways, rows, chosen):
    asked = candidates(ways, rows, chosen)
    return [len(asked)] + counted(unbeaten(ways, rows, asked, chosen))


class AskTest(unittest.TestCase):

    def test_worked(self):
        self.assertEqual(told(load(WORKED), ask(0, 1), ask(0), ask(1))[1:],
                         [[4, 4, 0, 1, 2, 4], [2, 2, 1, 4], [1, 1, 2]])

    def test_a_candidate_that_is_beaten(self):
        text = text_of(["up", "up"], [[5, 1], [5, 2], [4, 2], [4, 3]])
        self.assertEqual(told(load(text), ask(0), ask(1), ask(0, 1))[1:], [[2, 2, 0, 1], [1, 1, 3], [3, 2, 1, 3]])

    def test_stored_for_the_set_itself(self):
        text = text_of(["up", "up"], [[2, 2], [3, 1], [1, 3], [1, 1]])
        self.assertEqual(last(load(text), ask(1, 0)), [3, 3, 0, 1, 2])

    def test_only_sets_within(self):
        text = text_of(["up"] * 3, [[9, 0, 0], [0, 9, 0], [0, 0, 9], [5, 5, 0], [0, 0, 0]])
        self.assertEqual(told(load(text), ask(0, 1), ask(2), ask(1, 2), ask(0, 1, 2))[1:],
                         [[3, 3, 0, 1, 3], [1, 1, 2], [2, 2, 1, 2], [4, 4, 0, 1, 2, 3]])

    def test_twins_and_crossed_sets(self):
        for rows in TWIN_ROWS, CROSSED_ROWS:
            ways = ["up"] * len(rows[0])
            for chosen in sets_in_order(len(ways)):
                self.assertEqual(last(load(text_of(ways, rows)), ask(*chosen)), ask_by_hand(ways, rows, chosen))

    def test_the_same_by_all_measures(self):
        text = text_of(["up", "down"], [[1, 1], [1, 1], [0, 2]])
        self.assertEqual(told(load(text), ask(0), ask(0, 1))[1:], [[2, 2, 0, 1]] * 2)

    def test_no_items_and_one(self):
        self.assertEqual(last(load("measures a up ;"), ask(0)), [0, 0])
        self.assertEqual(told(load(text_of(["up", "up"], [[-9, 9]])), ask(0), ask(0, 1))[1:], [[1, 1, 0]] * 2)

    def test_sixteen_items_and_four_measures(self):
        rows = [[number % 4, number // 4, number * 5 % 16, number * 3 % 7] for number in range(16)]
        ways = ["up", "down", "up", "down"]
        for chosen in sets_in_order(4):
            self.assertEqual(last(load(text_of(ways, rows)), ask(*chosen)), ask_by_hand(ways, rows, chosen))

    def test_many_lists(self):
        for ways, rows in small_lists():
            chosen_sets = sets_in_order(len(ways))
            answered = told(load(text_of(ways, rows)), *[ask(*chosen) for chosen in chosen_sets])
            for chosen, answer in zip(chosen_sets, answered[1:]):
                self.assertEqual(answer, ask_by_hand(ways, rows, chosen), (ways, rows, chosen))

    def test_in_any_order(self):
        for ways, rows in list(small_lists())[-15:]:
            measures = list(permutations(range(len(ways))))
            answered = told(load(text_of(ways, rows)), *[ask(*chosen) for chosen in measures])
            self.assertEqual(answered[1:], [answered[1]] * len(measures))


class RefusalTest(unittest.TestCase):

    def refuses(self, *measures):
        self.assertEqual(told(load(WORKED), ask(*measures), sub(0), ask(0)),
                         [[1, 2, 5], [-3], [2, 1, 4], [2, 2, 1, 4]], measures)

    def test_none(self):
        self.refuses()

    def test_not_there(self):
        for measure in 2, 3, 4, 1000, FAR, -1, -2, -3, -FAR:
            self.refuses(measure)
            self.refuses(measure, 0)
            self.refuses(0, measure)
            self.refuses(1, 0, measure)

    def test_twice(self):
        self.refuses(0, 0)
        self.refuses(1, 1)
        self.refuses(0, 1, 0)

    def test_far_too_many(self):
        self.refuses(*range(2000))
        self.refuses(*[0] * 2000)
        self.refuses(*[FAR] * 2000)

    def test_how_many_measures_there_are(self):
        for count in range(1, 5):
            text = text_of(["up"] * count, [[1] * count])
            self.assertEqual(told(load(text), ask(count - 1), ask(count), ask(*range(count + 1)))[1:],
                             [[1, 1, 0], [-3], [-3]])

    def test_no_items(self):
        self.assertEqual(told(load("measures a up ;"), ask(), ask(1), ask(0, 0))[1:], [[-3]] * 3)

    def test_the_list_is_left_as_it_was(self):
        before = last(load(WORKED), shown())
        self.assertEqual(told(load(WORKED), ask(0, 0), shown())[1:], [[-3], before])

    def test_no_list_goes_before(self):
        self.assertEqual(told(ask(), ask(0), ask(0, 0), ask(-FAR)), [[-1]] * 4)


if __name__ == "__main__":
    unittest.main()
