"""answers: how calls stand one behind another, how answers are given back, and what is left as it was."""

import unittest

from fewmeasures.lists import answers
from helper import FAR, WORKED, ask, bounds, bytes_of, cover, cube, groups, least, load, shown, sub, text_of, told

WORKED_BYTES = bytes_of(WORKED)
# Every call but load, some of them so that they are refused.
EVERY = (shown(), sub(0), sub(), cube(), least(0), least(-1), bounds([0, 4], [11, 9]), bounds([], []),
         bounds([1], [2, 3, 4]), groups(0, 0, 0, 1, 1), groups(), groups(10), cover(1), cover(-FAR), ask(0, 1), ask())


class Untouched(list):
    """A list that cannot be changed, not even for a while."""

    def refuse(self, *arguments, **named):
        raise AssertionError("what is handed in was changed")

    append = clear = extend = insert = pop = remove = reverse = sort = refuse
    __setitem__ = __delitem__ = __iadd__ = __imul__ = refuse


class WorkedTest(unittest.TestCase):

    def test_number_by_number(self):
        calls = [0, len(WORKED_BYTES), *WORKED_BYTES, 2, 1, 0, 2, 1, 1, 2, 2, 1, 0, 3, 4, 0, 4, 1, 4, 3,
                 8, 2, 0, 1, 8, 1, 0, 5, 2, 0, 4, 2, 11, 9, 6, 5, 0, 0, 0, 1, 1, 7, 1, 7, 2]
        self.assertEqual(answers(calls), [
            3, 1, 2, 5,
            3, 2, 1, 4,
            2, 1, 2,
            5, 4, 0, 1, 2, 4,
            17, 3, 7, 4, 1, 0, 2, 1, 4, 1, 1, 1, 2, 2, 0, 1, 1, 0,
            5, 1, 2, 0, 1, 1,
            4, 1, 1, 0, 2,
            2, 0, 0,
            6, 4, 4, 0, 1, 2, 4,
            4, 2, 2, 1, 4,
            3, 1, 1, 0,
            15, 2, 0, 3, 0, 1, 2, 1, 2, 3, 4, 4, 0, 1, 2, 4,
            4, 1, 0, 1, 0,
            6, 1, 0, 1, 1, 0, 1,
        ])

    def test_shown_stands_behind_its_length(self):
        self.assertEqual(answers([*load("measures a up;"), 1]), [3, 1, 1, 0, 17, 16, *b"measures a up ;\n"])

    def test_a_fault_and_refusals(self):
        self.assertEqual(answers([1, 3, 4, 0, 0, 0, 2, 1, 0, 0, 1, 63, 1]),
                         [1, -1, 1, -1, 1, -1, 3, 0, 3, 0, 1, -1, 3, 0, 2, 0, 1, -1])
        self.assertEqual(answers([*load("measures a up;"), 2, 0, 4, 0, 2, 2, 0, 0, 3]),
                         [3, 1, 1, 0, 1, -3, 1, -2, 1, -3, 6, 1, 0, 0, 1, 0, 0])
        calls = [5, 0, 0, 5, 1, 3, 0, 6, 1, 0, 7, 0, 8, 0, 5, 0, 1, 3, 6, 0, 7, -1]
        self.assertEqual(answers([*load("measures a up;"), *calls]),
                         [3, 1, 1, 0, 1, -4, 1, -4, 1, -4, 1, -5, 1, -3, 1, -4, 2, 0, 0, 1, -5])


class CallsTest(unittest.TestCase):

    def test_forty_calls(self):
        self.assertEqual(told(load(WORKED), *[sub(0)] * 39), [[1, 2, 5]] + [[2, 1, 4]] * 39)

    def test_one_call(self):
        self.assertEqual(told(load(WORKED)), [[1, 2, 5]])
        self.assertEqual(told(load("")), [[0, 3, 0]])

    def test_the_longest(self):
        calls = load(WORKED) + load([35] * 8192) + load([35] * 8191) + sub(*[FAR] * 400) + least(FAR)
        self.assertLessEqual(len(calls), 17000)
        self.assertEqual(told(calls), [[1, 2, 5], [0, 1, 4096], [0, 1, 4096], [-3], [-2]])

    def test_another_list_takes_the_place_of_the_first(self):
        second = "measures a down ; item x : 3 ;"
        self.assertEqual(told(load(WORKED), load(second), sub(0), sub(1), least(1), cube()),
                         [[1, 2, 5], [1, 1, 1], [1, 0], [-3], [-2], [1, 1, 1, 1, 0, 1, 0]])

    def test_a_wrong_one_does_not(self):
        self.assertEqual(told(load(WORKED), load("measures a down ; item x : 3 "), sub(0), least(1)),
                         [[1, 2, 5], [0, 3, 29], [2, 1, 4], [1, 1, 0, 2]])

    def test_what_is_asked_leaves_the_list_as_it_was(self):
        asked = [shown(), sub(1, 0), cube(), least(2), bounds([0, 4], [11, 9]), groups(0, 0, 0, 1, 1), cover(2), ask(0)]
        refused = [sub(), least(-1), sub(5), least(9), bounds([0], [1]), groups(10, 0, 0, 0, 0), groups(), cover(5),
                   cover(0), ask(), ask(0, 0)]
        once = told(load(WORKED), *asked)[1:]
        for calls in asked, refused:
            self.assertEqual(told(load(WORKED), *asked, *calls, *asked)[-len(asked):], once)
        self.assertEqual(told(load(WORKED), *refused)[1:],
                         [[-3], [-2], [-3], [-2], [-4], [-4], [-4], [-5], [-5], [-3], [-3]])

    def test_calls_behind_others_are_found(self):
        for call in EVERY:
            answered = told(load(WORKED), call, sub(0), call, least(1))
            self.assertEqual([answered[place] for place in (0, 2, 4)], [[1, 2, 5], [2, 1, 4], [1, 1, 0, 2]])

    def test_forty_calls_with_several_loads(self):
        second = "measures a up, b up, c down ; item x : 1, 2, 3 ; item y : 1, 3, 3 ; item z : 0, 0, 0 ;"
        empty = "measures a down ;"
        on_worked = [
            (bounds([0, 4], [11, 9]), [1, 1, 0]), (cover(2), [1, 0, 1, 1, 0, 1]), (ask(0), [2, 2, 1, 4]),
            (groups(0, 0, 0, 1, 1), [2, 0, 3, 0, 1, 2, 1, 2, 3, 4, 4, 0, 1, 2, 4]), (least(3), [0, 0]), (sub(2), [-3])]
        on_second = [
            (bounds([0, 0], [9, 9]), [-4]), (bounds([0, 0, 3], [9, 9, 3]), [2, 1, 1]), (cover(1), [1, 1, 1, 1]),
            (groups(0, 9, 0), [2, 0, 2, 0, 2, 9, 1, 1, 2, 1, 2]), (ask(0, 1), [2, 1, 1]), (sub(2), [1, 2]),
            (groups(0, 0, 0, 1, 1), [-4]), (cover(4), [-5])]
        on_empty = [
            (bounds([0], [9]), [0, 0]), (cover(1), [-5]), (groups(), [0, 0]), (ask(0), [0, 0]), (least(0), [-2])]
        twice = (load("measures a up, a down ;"), [0, 5, 15])
        too_long = (load([35] * 4097), [0, 1, 4096])
        line = [
            (ask(0), [-1]), twice, (cover(1), [-1]),
            (load(WORKED), [1, 2, 5]), *on_worked, twice, *on_worked,
            (load(second), [1, 3, 3]), *on_second[:4], too_long, *on_second[4:],
            (load(empty), [1, 1, 0]), *on_empty, (load("?"), [0, 2, 0]), (shown(), [18, *b"measures a down ;\n"]),
            (load(WORKED), [1, 2, 5]), (groups(), [-4]), (cover(1), [1, 0, 1, 0]), (ask(1), [1, 1, 2]),
            (bounds([8, 3], [8, 3]), [2, 2, 1, 4])]
        self.assertEqual(len(line), 40)
        self.assertEqual(told(*[call for call, answer in line]), [answer for call, answer in line])

    def test_forty_calls_of_the_longest_work(self):
        rows = [[number % 4, number // 4, number * 5 % 16, number * 3 % 7] for number in range(16)]
        text = text_of(["up", "down", "up", "down"], rows)
        for call in cover(4), cube(), ask(3, 2, 1, 0), bounds([-FAR] * 4, [FAR] * 4), groups(*[9, 0] * 8), shown():
            answered = told(load(text), *[call] * 39)
            self.assertEqual(answered[1:], [told(load(text), call)[1]] * 39)

    def test_numbers_in_a_row_are_no_calls(self):
        self.assertEqual(told(load(WORKED), sub(3, 0, 1, 1), sub(0)), [[1, 2, 5], [-3], [2, 1, 4]])


class NoListTest(unittest.TestCase):

    def test_every_call_but_load(self):
        self.assertEqual(told(*EVERY), [[-1]] * len(EVERY))

    def test_after_a_fault_too(self):
        for call in EVERY:
            self.assertEqual(told(load("measures"), call), [[0, 3, 8], [-1]])

    def test_until_one_is_loaded(self):
        self.assertEqual(told(sub(0), load(WORKED), sub(0)), [[-1], [1, 2, 5], [2, 1, 4]])


class LeftAloneTest(unittest.TestCase):

    CALLS = [number for call in (load(WORKED), *EVERY, least(9), load("?"), load([35] * 4097), *EVERY)
             for number in call]

    def test_what_is_handed_in_is_the_same(self):
        calls = list(self.CALLS)
        answers(calls)
        self.assertEqual(calls, self.CALLS)

    def test_nor_is_it_changed_for_a_while(self):
        self.assertEqual(answers(Untouched(self.CALLS)), answers(list(self.CALLS)))

    def test_what_is_given_back_is_another_list(self):
        calls = list(self.CALLS)
        given = answers(calls)
        again = list(given)
        calls.clear()
        self.assertEqual(given, again)

    def test_nothing_is_kept(self):
        self.assertEqual(told(load(WORKED), sub(0)), [[1, 2, 5], [2, 1, 4]])
        self.assertEqual(told(*EVERY), [[-1]] * len(EVERY))

    def test_changing_what_was_given_back_changes_nothing_later(self):
        first = answers(list(self.CALLS))
        kept = list(first)
        first.clear()
        self.assertEqual(answers(list(self.CALLS)), kept)

    def test_whole_numbers_in_a_list(self):
        given = answers(list(self.CALLS))
        self.assertIs(type(given), list)
        self.assertEqual({type(number) for number in given}, {int})


if __name__ == "__main__":
    unittest.main()
