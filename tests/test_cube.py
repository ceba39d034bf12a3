"""cube and least: the least sets of each item, what is stored for each set, and the refusal -2."""

import unittest

from helper import (CROSSED_ROWS, FAR, TWIN_ROWS, WORKED, counted, cube, last, least, load, sets_in_order, small_lists,
                    sub, text_of, told, unbeaten)


def winning(ways, rows):
    """For each item the sets by which it is unbeaten, in order."""
    best = [(chosen, unbeaten(ways, rows, range(len(rows)), chosen)) for chosen in sets_in_order(len(ways))]
    return [[chosen for chosen, items in best if item in items] for item in range(len(rows))]


def least_ones(sets):
    return [chosen for chosen in sets if not any(set(other) < set(chosen) for other in sets)]


def cube_by_hand(ways, rows):
    won = winning(ways, rows)
    kept = [least_ones(sets) for sets in won]
    answer = [len(sets_in_order(len(ways))), sum(map(len, won)), sum(map(len, kept))]
    for chosen in sets_in_order(len(ways)):
        answer += counted(chosen) + counted([item for item, sets in enumerate(kept) if chosen in sets])
    return answer


def least_by_hand(ways, rows, item):
    won = winning(ways, rows)[item]
    kept = least_ones(won)
    return [len(kept), *[number for chosen in kept for number in counted(chosen)], len(won)]


class CubeTest(unittest.TestCase):

    def test_worked(self):
        self.assertEqual(last(load(WORKED), cube()), [3, 7, 4, 1, 0, 2, 1, 4, 1, 1, 1, 2, 2, 0, 1, 1, 0])

    def test_no_items(self):
        self.assertEqual(last(load("measures a up ;"), cube()), [1, 0, 0, 1, 0, 0])
        self.assertEqual(last(load("measures a up, b up ;"), cube()), [3, 0, 0, 1, 0, 0, 1, 1, 0, 2, 0, 1, 0])

    def test_order_of_the_sets(self):
        orders = {
            1: [[0]],
            2: [[0], [1], [0, 1]],
            3: [[0], [1], [2], [0, 1], [0, 2], [1, 2], [0, 1, 2]],
            4: [[0], [1], [2], [3], [0, 1], [0, 2], [0, 3], [1, 2], [1, 3], [2, 3],
                [0, 1, 2], [0, 1, 3], [0, 2, 3], [1, 2, 3], [0, 1, 2, 3]],
        }
        for count, sets in orders.items():
            answer = [len(sets), 0, 0]
            for chosen in sets:
                answer += counted(chosen) + [0]
            self.assertEqual(last(load(text_of(["up"] * count, [])), cube()), answer)

    def test_one_item_is_stored_for_each_measure(self):
        answer = last(load("measures a up, b up, c down ; item x : 5, 5, 5 ;"), cube())
        self.assertEqual(answer, [7, 7, 3, 1, 0, 1, 0, 1, 1, 1, 0, 1, 2, 1, 0,
                                  2, 0, 1, 0, 2, 0, 2, 0, 2, 1, 2, 0, 3, 0, 1, 2, 0])

    def test_stored_for_all_measures_alone(self):
        text = "measures a up, b up, c up ; item x : 2, 2, 2 ; item y : 3, 3, 1 ; item z : 3, 1, 3 ; item w : 1, 3, 3 ;"
        answered = told(load(text), cube(), least(0))
        self.assertEqual(answered[1][-5:], [0, 1, 2, 1, 0])
        self.assertEqual(answered[2], [1, 3, 0, 1, 2, 1])

    def test_a_set_with_a_least_one_two_measures_smaller_is_not_least(self):
        answered = told(load(text_of(["up"] * 3, TWIN_ROWS)), least(0), cube())
        self.assertEqual(answered[1], [1, 1, 0, 2])
        self.assertEqual(answered[2][-5:], [3, 0, 1, 2, 0])

    def test_many_lists(self):
        for ways, rows in small_lists():
            self.assertEqual(last(load(text_of(ways, rows)), cube()), cube_by_hand(ways, rows), (ways, rows))

    def test_most_of_both(self):
        rows = [[number % 4, number // 4, number * 5 % 16, number * 3 % 7] for number in range(16)]
        for ways in (["up", "down", "up", "down"], ["down", "down", "up", "up"]):
            self.assertEqual(last(load(text_of(ways, rows)), cube()), cube_by_hand(ways, rows))


class LeastTest(unittest.TestCase):

    def test_worked(self):
        self.assertEqual(told(load(WORKED), *[least(item) for item in range(5)])[1:],
                         [[1, 2, 0, 1, 1], [1, 1, 0, 2], [1, 1, 1, 2], [0, 0], [1, 1, 0, 2]])

    def test_several(self):
        text = "measures a up, b up, c up ; item x : 9, 8, 8 ; item y : 1, 9, 1 ; item z : 1, 1, 9 ;"
        self.assertEqual(told(load(text), least(0), least(1))[1:], [[2, 1, 0, 2, 1, 2, 5], [1, 1, 1, 4]])

    def test_least_sets_that_share_a_measure(self):
        self.assertEqual(last(load(text_of(["up"] * 4, CROSSED_ROWS)), least(0)), [2, 2, 0, 2, 3, 1, 2, 3, 4])

    def test_many_lists(self):
        for ways, rows in small_lists():
            answered = told(load(text_of(ways, rows)), *[least(item) for item in range(len(rows))])
            for item, answer in enumerate(answered[1:]):
                self.assertEqual(answer, least_by_hand(ways, rows, item), (ways, rows, item))

    def test_fits_with_sub_and_cube(self):
        for ways, rows in list(small_lists())[::40]:
            sets = sets_in_order(len(ways))
            everyone = range(len(rows))
            answered = told(load(text_of(ways, rows)), *[sub(*chosen) for chosen in sets],
                            *[least(item) for item in everyone], cube())
            of_sets, of_items = answered[1:1 + len(sets)], answered[1 + len(sets):-1]
            self.assertEqual(answered[-1][:3], [len(sets), sum(best[0] for best in of_sets),
                                                sum(answer[0] for answer in of_items)])
            self.assertEqual([answer[-1] for answer in of_items],
                             [sum(item in best[1:] for best in of_sets) for item in everyone])


class RefusalTest(unittest.TestCase):

    def test_no_such_item(self):
        for item in 5, 6, 16, 17, FAR, -1, -2, -5, -6, -FAR:
            self.assertEqual(told(load(WORKED), least(item), least(3)), [[1, 2, 5], [-2], [0, 0]], item)

    def test_no_items(self):
        for item in 0, 1, -1:
            self.assertEqual(last(load("measures a up ;"), least(item)), [-2])

    def test_the_last_of_sixteen(self):
        rows = [[number] for number in range(16)]
        self.assertEqual(told(load(text_of(["up"], rows)), least(15), least(16))[1:], [[1, 1, 0, 1], [-2]])

    def test_no_list_goes_before(self):
        self.assertEqual(told(cube(), least(0), least(-1), least(FAR)), [[-1]] * 4)


if __name__ == "__main__":
    unittest.main()
