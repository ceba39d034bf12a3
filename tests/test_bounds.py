"""bounds: the items whose values are within, those unbeaten among them, and the refusal -4."""

import unittest

from helper import (FAR, WORKED, best_of_all, bounds, counted, last, load, mixed_numbers, shown, small_lists, sub,
                    text_of, told)


def bounds_by_hand(ways, rows, low, high):
    within = [item for item, row in enumerate(rows)
              if all(low[m] <= row[m] <= high[m] for m in range(len(ways)))]
    return [len(within)] + counted(best_of_all(ways, rows, within))


class BoundsTest(unittest.TestCase):

    def test_worked(self):
        self.assertEqual(last(load(WORKED), bounds([0, 4], [11, 9])), [1, 1, 0])

    def test_values_that_are_just_the_low_or_the_high_one(self):
        text = text_of(["up"], [[-1], [0], [1], [2], [3], [4]])
        self.assertEqual(told(load(text), bounds([0], [3]), bounds([1], [2]), bounds([2], [2]), bounds([4], [9]),
                              bounds([-9], [-1]), bounds([5], [9]), bounds([-9], [-2]))[1:],
                         [[4, 1, 4], [2, 1, 3], [1, 1, 3], [1, 1, 5], [1, 1, 0], [0, 0], [0, 0]])

    def test_values_as_told_where_less_is_more(self):
        text = text_of(["down"], [[-1], [0], [1], [2], [3], [4]])
        self.assertEqual(told(load(text), bounds([0], [3]), bounds([1], [2]), bounds([2], [2]), bounds([-4], [-1]),
                              bounds([-3], [0]))[1:],
                         [[4, 1, 1], [2, 1, 2], [1, 1, 3], [1, 1, 0], [2, 1, 0]])

    def test_each_measure_has_its_own(self):
        rows = [[5, 0, 0, 0], [0, 5, 0, 0], [0, 0, 5, 0], [0, 0, 0, 5], [0, 0, 0, 0]]
        for count in range(1, 5):
            text = text_of(["up"] * count, [row[:count] for row in rows])
            for measure in range(count):
                low = [5 if m == measure else 0 for m in range(count)]
                self.assertEqual(told(load(text), bounds(low, [5] * count), bounds([0] * count, low))[1:],
                                 [bounds_by_hand(["up"] * count, rows, low, [5] * count),
                                  bounds_by_hand(["up"] * count, rows, [0] * count, low)])
                self.assertEqual(last(load(text), bounds(low, [5] * count)), [1, 1, measure])

    def test_a_low_one_above_the_high_one(self):
        self.assertEqual(told(load(WORKED), bounds([9, 0], [8, 9]), bounds([0, 6], [99, 5]),
                              bounds([FAR] * 2, [-FAR] * 2), bounds([13, 0], [0, 9]))[1:], [[0, 0]] * 4)

    def test_who_is_outside_beats_nobody(self):
        text = text_of(["up", "up"], [[9, 9], [3, 3], [2, 2], [3, 1]])
        self.assertEqual(told(load(text), bounds([0, 0], [8, 8]), bounds([0, 0], [9, 9]), bounds([0, 0], [3, 2]))[1:],
                         [[3, 1, 1], [4, 1, 0], [2, 2, 2, 3]])

    def test_unbeaten_by_all_measures_whatever_they_bound(self):
        text = text_of(["up", "down"], [[1, 1], [2, 2], [2, 3]])
        self.assertEqual(last(load(text), bounds([-FAR, 1], [FAR, 3])), [3, 2, 0, 1])

    def test_the_same_by_all_measures(self):
        text = text_of(["up", "up"], [[1, 2], [1, 2], [1, 1], [1, 2]])
        self.assertEqual(last(load(text), bounds([0, 0], [9, 9])), [4, 3, 0, 1, 3])

    def test_out_to_the_farthest(self):
        self.assertEqual(told(load(WORKED), bounds([-FAR, -FAR], [FAR, FAR]), bounds([FAR, FAR], [FAR, FAR]),
                              bounds([-FAR, -FAR], [-FAR, -FAR]))[1:], [[5, 4, 0, 1, 2, 4], [0, 0], [0, 0]])

    def test_the_greatest_and_the_least_values(self):
        text = text_of(["up"], [[1000], [-1000], [0]])
        self.assertEqual(told(load(text), bounds([1000], [1000]), bounds([-1000], [-1000]), bounds([-999], [999]),
                              bounds([-1000], [1000]))[1:], [[1, 1, 0], [1, 1, 1], [1, 1, 2], [3, 1, 0]])

    def test_no_items(self):
        self.assertEqual(last(load("measures a up, b down ;"), bounds([0, 0], [9, 9])), [0, 0])

    def test_sixteen_items(self):
        text = text_of(["up", "down"], [[number, number] for number in range(16)])
        self.assertEqual(told(load(text), bounds([0, 0], [15, 15]), bounds([1, 1], [14, 99]))[1:],
                         [[16, 16, *range(16)], [14, 14, *range(1, 15)]])

    def test_many_lists(self):
        numbers = mixed_numbers(7)
        for ways, rows in small_lists():
            low = [next(numbers) % 5 - 2 for way in ways]
            high = [number + next(numbers) % 5 - 1 for number in low]
            self.assertEqual(told(load(text_of(ways, rows)), bounds(low, high), bounds([-2] * len(ways), high))[1:],
                             [bounds_by_hand(ways, rows, low, high),
                              bounds_by_hand(ways, rows, [-2] * len(ways), high)], (ways, rows, low, high))


class RefusalTest(unittest.TestCase):

    def refuses(self, low, high):
        self.assertEqual(told(load(WORKED), bounds(low, high), sub(0), bounds([0, 4], [11, 9])),
                         [[1, 2, 5], [-4], [2, 1, 4], [1, 1, 0]], (low, high))

    def test_wrong_rows(self):
        for wrong in [], [0], [0, 0, 0], [9, 9, 9, 9], [FAR], [-FAR] * 3, [0] * 1999, [FAR] * 2000:
            self.refuses(wrong, [9, 9])
            self.refuses([0, 0], wrong)
            self.refuses(wrong, wrong)

    def test_as_many_in_both_together(self):
        self.refuses([0], [9, 9, 9])
        self.refuses([0, 0, 0], [9])
        self.refuses([], [0, 0, 9, 9])
        self.refuses([0, 0, 9, 9], [])

    def test_how_many_measures_there_are(self):
        for count in range(1, 5):
            text = text_of(["up"] * count, [[1] * count])
            for length in range(7):
                right = [1, 1, 0] if length == count else [-4]
                self.assertEqual(last(load(text), bounds([0] * length, [2] * length)), right)

    def test_no_items(self):
        self.assertEqual(told(load("measures a up ;"), bounds([], []), bounds([0], []), bounds([0, 0], [9, 9]))[1:],
                         [[-4]] * 3)

    def test_the_list_is_left_as_it_was(self):
        before = last(load(WORKED), shown())
        self.assertEqual(told(load(WORKED), bounds([0], [9]), shown())[1:], [[-4], before])

    def test_no_list_goes_before(self):
        self.assertEqual(told(bounds([], []), bounds([0], [9]), bounds([0], []), bounds([FAR], [-FAR])), [[-1]] * 4)


if __name__ == "__main__":
    unittest.main()
