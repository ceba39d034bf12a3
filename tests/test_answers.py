"""answers: how calls stand one behind another, how answers are given back, and what is left as it was."""

import unittest

from fewmeasures.lists import answers
from helper import FAR, WORKED, ask, bounds, bytes_of, cover, cube, groups, least, load, shown, sub, told

WORKED_BYTES = bytes_of(WORKED)


class Untouched(list):
    """A list that cannot be changed, not even for a while."""

    def refuse(self, *arguments, **named):
        raise AssertionError("what is handed in was changed")

    append = clear = extend = insert = pop = remove = reverse = sort = refuse
    __setitem__ = __delitem__ = __iadd__ = __imul__ = refuse


class WorkedTest(unittest.TestCase):

    def test_number_by_number(self):
        calls = [0, len(WORKED_BYTES), *WORKED_BYTES, 2, 1, 0, 2, 1, 1, 2, 2, 1, 0, 3, 4, 0, 4, 1, 4, 3]
        self.assertEqual(answers(calls), [
            3, 1, 2, 5,
            3, 2, 1, 4,
            2, 1, 2,
            5, 4, 0, 1, 2, 4,
            17, 3, 7, 4, 1, 0, 2, 1, 4, 1, 1, 1, 2, 2, 0, 1, 1, 0,
            5, 1, 2, 0, 1, 1,
            4, 1, 1, 0, 2,
            2, 0, 0,
        ])

    def test_shown_stands_behind_its_length(self):
        self.assertEqual(answers([*load("measures a up;"), 1]), [3, 1, 1, 0, 17, 16, *b"measures a up ;\n"])

    def test_a_fault_and_refusals(self):
        self.assertEqual(answers([1, 3, 4, 0, 0, 0, 2, 1, 0, 0, 1, 63, 1]),
                         [1, -1, 1, -1, 1, -1, 3, 0, 3, 0, 1, -1, 3, 0, 2, 0, 1, -1])
        self.assertEqual(answers([*load("measures a up;"), 2, 0, 4, 0, 2, 2, 0, 0, 3]),
                         [3, 1, 1, 0, 1, -3, 1, -2, 1, -3, 6, 1, 0, 0, 1, 0, 0])


class CallsTest(unittest.TestCase):

    def test_forty_calls(self):
        self.assertEqual(told(load(WORKED), *[sub(0)] * 39), [[1, 2, 5]] + [[2, 1, 4]] * 39)

    def test_one_call(self):
        self.assertEqual(told(load(WORKED)), [[1, 2, 5]])
        self.assertEqual(told(load("")), [[0, 3, 0]])

    def test_the_longest(self):
        calls = load(WORKED) + load([35] * 8192) + load([35] * 8191) + sub(*[FAR] * 400) + least(FAR)
        self.assertLessEqual(len(calls), 17000)
        self.assertEqual(told(calls), [[1, 2, 5], [0, 1, 4096], [0, 1, 4096], [-3], [-2]])

    def test_another_list_takes_the_place_of_the_first(self):
        second = "measures a down ; item x : 3 ;"
        self.assertEqual(told(load(WORKED), load(second), sub(0), sub(1), least(1), cube()),
                         [[1, 2, 5], [1, 1, 1], [1, 0], [-3], [-2], [1, 1, 1, 1, 0, 1, 0]])

    def test_a_wrong_one_does_not(self):
        self.assertEqual(told(load(WORKED), load("measures a down ; item x : 3 "), sub(0), least(1)),
                         [[1, 2, 5], [0, 3, 29], [2, 1, 4], [1, 1, 0, 2]])

    def test_what_is_asked_leaves_the_list_as_it_was(self):
        asked = [shown(), sub(1, 0), sub(1), cube(), least(2), sub(), least(-1), sub(5), least(9)]
        once = told(load(WORKED), *asked)[1:]
        self.assertEqual(told(load(WORKED), *asked, *asked, *asked)[1:], once * 3)

    def test_calls_behind_those_asked_later_are_found(self):
        later = [bounds([0, 4], [11, 9]), bounds([], []), bounds([1], [2, 3, 4]), groups(0, 0, 0, 1, 1), groups(),
                 cover(1), cover(-FAR), ask(0, 1), ask()]
        for call in later:
            answered = told(load(WORKED), call, sub(0), call, least(1))
            self.assertEqual([answered[place] for place in (0, 2, 4)], [[1, 2, 5], [2, 1, 4], [1, 1, 0, 2]])

    def test_numbers_in_a_row_are_no_calls(self):
        self.assertEqual(told(load(WORKED), sub(3, 0, 1, 1), sub(0)), [[1, 2, 5], [-3], [2, 1, 4]])


class NoListTest(unittest.TestCase):

    EVERY = (shown(), sub(0), sub(), cube(), least(0), least(-1), bounds([], []), bounds([1], [2]), groups(), groups(1),
             cover(1), cover(0), ask(0), ask())

    def test_every_call_but_load(self):
        self.assertEqual(told(*self.EVERY), [[-1]] * len(self.EVERY))

    def test_after_a_fault_too(self):
        for call in self.EVERY:
            self.assertEqual(told(load("measures"), call), [[0, 3, 8], [-1]])

    def test_until_one_is_loaded(self):
        self.assertEqual(told(sub(0), load(WORKED), sub(0)), [[-1], [1, 2, 5], [2, 1, 4]])


class LeftAloneTest(unittest.TestCase):

    CALLS = load(WORKED) + shown() + sub(1, 0) + sub() + cube() + least(1) + least(9) + load("?") + load([35] * 4097)

    def test_what_is_handed_in_is_the_same(self):
        calls = list(self.CALLS)
        answers(calls)
        self.assertEqual(calls, self.CALLS)

    def test_nor_is_it_changed_for_a_while(self):
        self.assertEqual(answers(Untouched(self.CALLS)), answers(list(self.CALLS)))

    def test_what_is_given_back_is_another_list(self):
        calls = list(self.CALLS)
        given = answers(calls)
        again = list(given)
        calls.clear()
        self.assertEqual(given, again)

    def test_nothing_is_kept(self):
        self.assertEqual(told(load(WORKED), sub(0)), [[1, 2, 5], [2, 1, 4]])
        self.assertEqual(told(sub(0), shown(), cube(), least(0)), [[-1]] * 4)

    def test_changing_what_was_given_back_changes_nothing_later(self):
        first = answers(list(self.CALLS))
        kept = list(first)
        first.clear()
        self.assertEqual(answers(list(self.CALLS)), kept)

    def test_whole_numbers_in_a_list(self):
        given = answers(list(self.CALLS))
        self.assertIs(type(given), list)
        self.assertEqual({type(number) for number in given}, {int})


if __name__ == "__main__":
    unittest.main()
