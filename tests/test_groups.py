"""groups: the best of each group, those unbeaten among all these, and the refusal -4."""

import unittest

from helper import (FAR, WORKED, best_of_all, counted, groups, last, load, mixed_numbers, shown, small_lists, sub,
                    text_of, told)


def groups_by_hand(ways, rows, group_of):
    numbers = [number for number in range(10) if number in group_of]
    answer = [len(numbers)]
    leaders = set()
    for number in numbers:
        best = best_of_all(ways, rows, [item for item in range(len(rows)) if group_of[item] == number])
        answer += [number, *counted(best)]
        leaders.update(best)
    return answer + counted(best_of_all(ways, rows, sorted(leaders)))


class GroupsTest(unittest.TestCase):

    def test_worked(self):
        self.assertEqual(last(load(WORKED), groups(0, 0, 0, 1, 1)), [2, 0, 3, 0, 1, 2, 1, 2, 3, 4, 4, 0, 1, 2, 4])

    def test_the_first_and_the_last_number(self):
        text = text_of(["up"], [[1], [2], [3]])
        self.assertEqual(told(load(text), groups(0, 9, 0), groups(9, 9, 9), groups(0, 0, 0), groups(9, 0, 9))[1:],
                         [[2, 0, 1, 2, 9, 1, 1, 1, 2], [1, 9, 1, 2, 1, 2], [1, 0, 1, 2, 1, 2],
                          [2, 0, 1, 1, 9, 1, 2, 1, 2]])

    def test_in_order_of_their_numbers(self):
        text = text_of(["up", "down"], [[1, 1], [2, 2], [3, 3], [4, 4]])
        self.assertEqual(last(load(text), groups(7, 3, 9, 3)),
                         [3, 3, 2, 1, 3, 7, 1, 0, 9, 1, 2, 4, 0, 1, 2, 3])

    def test_groups_without_items_are_not_told(self):
        text = text_of(["up"], [[1], [2]])
        self.assertEqual(told(load(text), groups(5, 5), groups(2, 8))[1:],
                         [[1, 5, 1, 1, 1, 1], [2, 2, 1, 0, 8, 1, 1, 1, 1]])

    def test_a_groups_best_is_beaten_from_outside(self):
        text = text_of(["up", "up"], [[9, 9], [3, 3], [2, 4], [1, 1]])
        self.assertEqual(last(load(text), groups(1, 2, 2, 2)), [2, 1, 1, 0, 2, 2, 1, 2, 1, 0])

    def test_by_all_measures(self):
        text = text_of(["up", "down"], [[1, 1], [2, 2], [2, 3]])
        self.assertEqual(last(load(text), groups(4, 4, 4)), [1, 4, 2, 0, 1, 2, 0, 1])

    def test_the_same_by_all_measures(self):
        text = text_of(["up", "up"], [[1, 2], [1, 2], [1, 2], [0, 0]])
        self.assertEqual(told(load(text), groups(6, 6, 6, 6), groups(1, 0, 1, 0))[1:],
                         [[1, 6, 3, 0, 1, 2, 3, 0, 1, 2], [2, 0, 1, 1, 1, 2, 0, 2, 3, 0, 1, 2]])

    def test_no_items_and_one(self):
        self.assertEqual(last(load("measures a up ;"), groups()), [0, 0])
        self.assertEqual(last(load(text_of(["down"], [[7]])), groups(9)), [1, 9, 1, 0, 1, 0])

    def test_sixteen_items(self):
        text = text_of(["up"], [[number] for number in range(16)])
        self.assertEqual(last(load(text), groups(*[number % 10 for number in range(16)])),
                         [10, 0, 1, 10, 1, 1, 11, 2, 1, 12, 3, 1, 13, 4, 1, 14, 5, 1, 15, 6, 1, 6, 7, 1, 7, 8, 1, 8,
                          9, 1, 9, 1, 15])

    def test_many_lists(self):
        numbers = mixed_numbers(11)
        for ways, rows in small_lists():
            some = [next(numbers) % 3 * 4 for row in rows]
            many = [next(numbers) % 10 for row in rows]
            self.assertEqual(told(load(text_of(ways, rows)), groups(*some), groups(*many))[1:],
                             [groups_by_hand(ways, rows, some), groups_by_hand(ways, rows, many)], (ways, rows))


class RefusalTest(unittest.TestCase):

    def refuses(self, *numbers):
        self.assertEqual(told(load(WORKED), groups(*numbers), sub(0), groups(0, 0, 0, 0, 0)),
                         [[1, 2, 5], [-4], [2, 1, 4], [1, 0, 4, 0, 1, 2, 4, 4, 0, 1, 2, 4]], numbers)

    def test_not_as_many_as_items(self):
        for length in 0, 1, 2, 4, 6, 16, 17, 1999, 2000:
            self.refuses(*[0] * length)

    def test_no_group(self):
        for wrong in -1, 10, 11, -2, -9, FAR, -FAR:
            for place in range(5):
                self.refuses(*[wrong if item == place else item for item in range(5)])

    def test_no_group_and_not_as_many(self):
        self.refuses(10)
        self.refuses(-1, 0, 0, 0, 0, 0)
        self.refuses(*[FAR] * 2000)

    def test_no_items(self):
        self.assertEqual(told(load("measures a up ;"), groups(0), groups(0, 0), groups(-1), groups())[1:],
                         [[-4], [-4], [-4], [0, 0]])

    def test_how_many_items_there_are(self):
        for count in range(17):
            text = text_of(["up"], [[1]] * count)
            for length in range(20):
                refused = last(load(text), groups(*[5] * length)) == [-4]
                self.assertEqual(refused, length != count)

    def test_the_list_is_left_as_it_was(self):
        before = last(load(WORKED), shown())
        self.assertEqual(told(load(WORKED), groups(0, 0, 0, 0, 10), shown())[1:], [[-4], before])

    def test_no_list_goes_before(self):
        self.assertEqual(told(groups(), groups(0), groups(10), groups(-FAR)), [[-1]] * 4)


if __name__ == "__main__":
    unittest.main()
