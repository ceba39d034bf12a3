"""cover: the items that together beat most, the best ones and those taken step by step, and the refusal -5."""

import unittest
from itertools import combinations

from helper import (FAR, SPREAD_ROWS, SPREAD_WAYS, WORKED, beaten_by, cover, last, load, shown, small_lists, sub,
                    text_of, told)

# Item 0 beats 4 and 5, 1 beats 4 and 6, 2 beats 5 and 7, 3 beats 6 and 7: the best two are 0 and 3, or 1 and 2.
RING_ROWS = [[0, 1, 1, 1], [1, 0, 1, 1], [1, 1, 0, 1], [1, 1, 1, 0],
             [0, 0, 1, 1], [0, 1, 0, 1], [1, 0, 1, 0], [1, 1, 0, 0]]


def cover_by_hand(ways, rows, how_many):
    alone = [beaten_by(ways, rows, [item]) for item in range(len(rows))]

    def count(some):
        return len(set().union(*[alone[item] for item in some]))

    sets = list(combinations(range(len(rows)), how_many))
    most = max(count(some) for some in sets)
    best = next(some for some in sets if count(some) == most)
    taken = []
    while len(taken) < how_many:
        left = [item for item in range(len(rows)) if item not in taken]
        gain = max(count(taken + [item]) for item in left)
        taken.append(next(item for item in left if count(taken + [item]) == gain))
    return [most, *best, count(taken), *taken]


class CoverTest(unittest.TestCase):

    def test_worked(self):
        self.assertEqual(told(load(WORKED), cover(1), cover(2))[1:], [[1, 0, 1, 0], [1, 0, 1, 1, 0, 1]])

    def test_one_to_four(self):
        rows = [[1, 1], [0, 7], [1, 9], [7, 0], [9, 1]]
        self.assertEqual(told(load(text_of(["up", "up"], rows)), *[cover(k) for k in range(1, 5)])[1:],
                         [[2, 2, 2, 2], [3, 2, 4, 3, 2, 4], [3, 0, 2, 4, 3, 2, 4, 0], [3, 0, 1, 2, 4, 3, 2, 4, 0, 1]])

    def test_step_by_step_beats_fewer(self):
        text = text_of(SPREAD_WAYS, SPREAD_ROWS)
        self.assertEqual(told(load(text), *[cover(k) for k in range(1, 5)])[1:],
                         [[2, 0, 2, 0], [4, 1, 2, 3, 0, 1], [4, 0, 1, 2, 4, 0, 1, 2],
                          [4, 0, 1, 2, 3, 4, 0, 1, 2, 3]])

    def test_of_several_best_sets_the_first(self):
        text = text_of(["up"] * 4, RING_ROWS)
        self.assertEqual(told(load(text), cover(1), cover(2), cover(3))[1:],
                         [[2, 0, 2, 0], [4, 0, 3, 4, 0, 3], [4, 0, 1, 2, 4, 0, 3, 1]])

    def test_of_several_that_beat_nobody_the_first(self):
        text = text_of(["up", "down"], [[number, number] for number in range(6)])
        for how_many in range(1, 5):
            first = list(range(how_many))
            self.assertEqual(last(load(text), cover(how_many)), [0, *first, 0, *first])

    def test_in_the_order_in_which_they_are_taken(self):
        rows = [[0, 0], [1, 1], [0, 3], [4, 4]]
        self.assertEqual(told(load(text_of(["up", "up"], rows)), cover(2), cover(3), cover(4))[1:],
                         [[3, 0, 3, 3, 3, 0], [3, 0, 1, 3, 3, 3, 0, 1], [3, 0, 1, 2, 3, 3, 3, 0, 1, 2]])

    def test_those_taken_may_be_beaten_too(self):
        text = text_of(["up"], [[3], [2], [1]])
        self.assertEqual(told(load(text), cover(1), cover(2), cover(3))[1:],
                         [[2, 0, 2, 0], [2, 0, 1, 2, 0, 1], [2, 0, 1, 2, 2, 0, 1, 2]])

    def test_less_is_more(self):
        text = text_of(["down"], [[3], [1], [2]])
        self.assertEqual(told(load(text), cover(1), cover(2))[1:], [[2, 1, 2, 1], [2, 0, 1, 2, 1, 0]])

    def test_the_same_by_all_measures(self):
        text = text_of(["up", "up"], [[2, 2], [2, 2], [2, 2], [1, 2]])
        self.assertEqual(told(load(text), cover(1), cover(2), cover(4))[1:],
                         [[1, 0, 1, 0], [1, 0, 1, 1, 0, 1], [1, 0, 1, 2, 3, 1, 0, 1, 2, 3]])

    def test_by_all_measures(self):
        text = text_of(["up", "up"], [[9, 0], [0, 9], [8, 0], [7, 1]])
        self.assertEqual(last(load(text), cover(1)), [1, 0, 1, 0])

    def test_as_many_as_there_are_items(self):
        for count in range(1, 5):
            rows = [[number] for number in range(count)]
            rest = list(range(count - 1))
            self.assertEqual(last(load(text_of(["up"], rows)), cover(count)),
                             [count - 1, *range(count), count - 1, count - 1, *rest])

    def test_four_of_sixteen(self):
        rows = [[number % 4, number // 4, number * 5 % 16, number * 3 % 7] for number in range(16)]
        for ways in (["up", "down", "up", "down"], ["down", "down", "up", "up"], ["up"] * 4):
            self.assertEqual(last(load(text_of(ways, rows)), cover(4)), cover_by_hand(ways, rows, 4))

    def test_the_last_four_of_sixteen(self):
        rows = [[0, 0, 0, 1], [0, 0, 1, 0], [0, 1, 0, 0], [1, 0, 0, 0]] * 3
        rows += [[0, 0, 0, 2], [0, 0, 2, 0], [0, 2, 0, 0], [2, 0, 0, 0]]
        self.assertEqual(last(load(text_of(["up"] * 4, rows)), cover(4)), [12, 12, 13, 14, 15, 12, 12, 13, 14, 15])

    def test_many_lists(self):
        for ways, rows in small_lists():
            sizes = range(1, min(4, len(rows)) + 1)
            answered = told(load(text_of(ways, rows)), *[cover(how_many) for how_many in sizes])
            for how_many, answer in zip(sizes, answered[1:]):
                self.assertEqual(answer, cover_by_hand(ways, rows, how_many), (ways, rows, how_many))


class RefusalTest(unittest.TestCase):

    def test_not_from_one_to_four(self):
        for how_many in 0, 5, 6, 16, 17, -1, -2, -4, -5, FAR, -FAR:
            self.assertEqual(told(load(WORKED), cover(how_many), sub(0), cover(1)),
                             [[1, 2, 5], [-5], [2, 1, 4], [1, 0, 1, 0]], how_many)

    def test_five_of_sixteen(self):
        text = text_of(["up"], [[number] for number in range(16)])
        self.assertEqual(told(load(text), cover(5), cover(16), cover(15), cover(4))[1:],
                         [[-5], [-5], [-5], [15, 0, 1, 2, 15, 15, 15, 0, 1, 2]])

    def test_more_than_there_are_items(self):
        for count in range(7):
            text = text_of(["up"], [[number] for number in range(count)])
            for how_many in range(-1, 9):
                refused = last(load(text), cover(how_many)) == [-5]
                self.assertEqual(refused, not 1 <= how_many <= min(4, count), (count, how_many))

    def test_no_items(self):
        self.assertEqual(told(load("measures a up ;"), *[cover(k) for k in range(-1, 6)])[1:], [[-5]] * 7)

    def test_the_list_is_left_as_it_was(self):
        before = last(load(WORKED), shown())
        self.assertEqual(told(load(WORKED), cover(0), shown())[1:], [[-5], before])

    def test_no_list_goes_before(self):
        self.assertEqual(told(cover(1), cover(0), cover(5), cover(-FAR)), [[-1]] * 4)


if __name__ == "__main__":
    unittest.main()
