"""sub: the items unbeaten by some measures, and the refusal -3."""

import unittest
from itertools import permutations

from helper import FAR, WORKED, last, load, sets_in_order, small_lists, sub, text_of, told, unbeaten


class SubTest(unittest.TestCase):

    def test_worked(self):
        self.assertEqual(told(load(WORKED), sub(0), sub(1), sub(1, 0)), [[1, 2, 5], [2, 1, 4], [1, 2], [4, 0, 1, 2, 4]])

    def test_up_and_down(self):
        items = "item x : 3 ; item y : -4 ; item z : 1 ;"
        self.assertEqual(last(load("measures a up ;" + items), sub(0)), [1, 0])
        self.assertEqual(last(load("measures a down ;" + items), sub(0)), [1, 1])

    def test_the_same_do_not_beat_one_another(self):
        text = "measures a up, b down ; item x : 1, 1 ; item y : 1, 1 ; item z : 1, 2 ;"
        self.assertEqual(told(load(text), sub(0), sub(1), sub(0, 1))[1:], [[3, 0, 1, 2], [2, 0, 1], [2, 0, 1]])

    def test_better_by_one_and_worse_by_another(self):
        text = "measures a up, b up ; item x : 1, 2 ; item y : 2, 1 ; item z : 1, 1 ;"
        self.assertEqual(told(load(text), sub(0), sub(1), sub(0, 1))[1:], [[1, 1], [1, 0], [2, 0, 1]])

    def test_only_the_measures_told(self):
        text = "measures a up, b up, c up ; item x : 0, 9, 0 ; item y : 1, 0, 1 ;"
        self.assertEqual(told(load(text), sub(0, 2), sub(1), sub(1, 2))[1:], [[1, 1], [1, 0], [2, 0, 1]])

    def test_no_items_and_one(self):
        self.assertEqual(last(load("measures a up ;"), sub(0)), [0])
        self.assertEqual(last(load("measures a up ; item x : -9 ;"), sub(0)), [1, 0])

    def test_every_item(self):
        items = "".join(f"item i{number} : 5, {number}, -{number}, 5 ;" for number in range(16))
        text = "measures a up, b up, c up, d up ;" + items
        self.assertEqual(told(load(text), sub(3, 2, 1, 0), sub(0, 3))[1:], [[16, *range(16)]] * 2)

    def test_many_lists(self):
        for ways, rows in small_lists():
            chosen_sets = sets_in_order(len(ways))
            answered = told(load(text_of(ways, rows)), *[sub(*chosen) for chosen in chosen_sets])
            for chosen, answer in zip(chosen_sets, answered[1:]):
                best = unbeaten(ways, rows, range(len(rows)), chosen)
                self.assertEqual(answer, [len(best), *best], (ways, rows, chosen))

    def test_in_any_order(self):
        for ways, rows in list(small_lists())[-15:]:
            measures = list(permutations(range(len(ways))))
            answered = told(load(text_of(ways, rows)), *[sub(*chosen) for chosen in measures])
            self.assertEqual(answered[1:], [answered[1]] * len(measures))


class RefusalTest(unittest.TestCase):

    def refuses(self, *measures):
        self.assertEqual(told(load(WORKED), sub(*measures), sub(0)), [[1, 2, 5], [-3], [2, 1, 4]], measures)

    def test_none(self):
        self.refuses()

    def test_not_there(self):
        for measure in 2, 3, 4, 1000, FAR, -1, -2, -3, -FAR:
            self.refuses(measure)
            self.refuses(measure, 0)
            self.refuses(0, measure)
            self.refuses(1, 0, measure)

    def test_twice(self):
        self.refuses(0, 0)
        self.refuses(1, 1)
        self.refuses(0, 1, 0)
        self.refuses(1, 0, 1, 0)

    def test_far_too_many(self):
        self.refuses(*range(2000))
        self.refuses(*[0] * 2000)
        self.refuses(*[FAR] * 2000)

    def test_how_many_measures_there_are(self):
        for count in range(1, 5):
            ways = ["up"] * count
            answered = told(load(text_of(ways, [[1] * count])), sub(count - 1), sub(count), sub(*range(count + 1)))
            self.assertEqual(answered[1:], [[1, 0], [-3], [-3]])

    def test_with_no_items_too(self):
        self.assertEqual(told(load("measures a up ;"), sub(), sub(1), sub(0, 0))[1:], [[-3]] * 3)

    def test_no_list_goes_before(self):
        self.assertEqual(told(sub(), sub(0), sub(0, 0), sub(-FAR)), [[-1]] * 4)


if __name__ == "__main__":
    unittest.main()
