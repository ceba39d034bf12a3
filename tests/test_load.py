"""load: what it answers, the order of a list's tokens, and the faults 1, 3, 4, 5 and 7."""

import unittest

from helper import WORKED, last, load, shown, told

ITEMS = [f" item i{number} : {number} ;" for number in range(17)]
MEASURES = [f"m{number} up" for number in range(5)]


def place_of(marked):
    """The text without its only @, and where that stood."""
    return marked.replace("@", ""), marked.index("@")


class LoadTest(unittest.TestCase):

    def loads(self, text, measures, items):
        self.assertEqual(last(load(text)), [1, measures, items], text)

    def fails(self, marked, fault):
        text, place = place_of(marked)
        self.assertEqual(last(load(text)), [0, fault, place], marked)


class RightTest(LoadTest):

    def test_worked(self):
        self.loads(WORKED, 2, 5)

    def test_none_to_sixteen_items(self):
        for count in range(17):
            self.loads("measures a up ;" + "".join(ITEMS[:count]), 1, count)

    def test_one_to_four_measures(self):
        for count in range(1, 5):
            values = ", ".join(("1", "-2", "- 3", "4")[:count])
            self.loads(f"measures {', '.join(MEASURES[:count])} ; item x : {values} ;", count, 1)

    def test_most_of_both(self):
        items = "".join(f"item i{number} : 1, 2, 3, 4 ;" for number in range(16))
        self.loads(f"measures {', '.join(MEASURES[:4])} ; {items}", 4, 16)

    def test_an_item_may_have_a_measures_name(self):
        self.loads("measures a up, b down; item a : 1, 2; item b : 1, 2;", 2, 2)

    def test_values_from_end_to_end(self):
        self.loads("measures a up, b down; item x : 1000, -1000; item y : - 1000, 0;", 2, 2)


class TooLongTest(LoadTest):

    def test_as_long_as_may_be(self):
        text = "measures a up;"
        self.loads(text + " " * (4096 - len(text)), 1, 0)
        self.loads("#" * (4095 - len(text)) + "\n" + text, 1, 0)
        self.loads(text + "#" * (4096 - len(text)), 1, 0)

    def test_one_byte_more(self):
        text = "measures a up;"
        self.assertEqual(last(load(text + " " * (4097 - len(text)))), [0, 1, 4096])
        self.assertEqual(last(load("#" * 4097)), [0, 1, 4096])
        self.assertEqual(last(load([0] * 8192)), [0, 1, 4096])

    def test_before_every_other_fault(self):
        for text in "?", "up", "measures a up, a up;", "measures a up; item x : 1001;", "00":
            self.assertEqual(last(load(text + " " * 4096)), [0, 1, 4096])

    def test_faults_in_the_longest_text(self):
        self.assertEqual(last(load(" " * 4096)), [0, 3, 4096])
        self.assertEqual(last(load(" " * 4095 + "?")), [0, 2, 4095])


class NotAllowedTest(LoadTest):

    TOKENS = "measures", "up", "down", "item", "name", "5", ",", ":", ";", "-"
    # A whole list, and for each place in it which other tokens are allowed there.
    STEPS = (
        ("measures", ""), ("a", "name"), ("up", "up down"), (",", ", ;"),
        ("b", "name"), ("down", "up down"), (";", ", ;"),
        ("item", "item"), ("x", "name"), (":", ":"), ("1", "5 -"), (",", ","), ("-", "5 -"), ("2", "5"), (";", ";"),
        ("item", "item"), ("y", "name"), (":", ":"), ("-", "5 -"), ("3", "5"), (",", ","), ("4", "5 -"), (";", ";"),
    )

    def test_every_token_at_every_place(self):
        before = ""
        for token, others in self.STEPS:
            for other in self.TOKENS:
                if other != token and other not in others.split():
                    self.fails(f"{before}@{other} ", 3)
                    self.fails(f"{before}@{other} x : 1 ; , up", 3)
            before += token + " "
        for other in self.TOKENS:
            if other != "item":
                self.fails(f"{before}@{other}", 3)

    def test_the_end_at_every_place(self):
        before = ""
        for token, others in self.STEPS:
            if "item" in others:
                self.assertEqual(last(load(before))[0], 1, before)
            else:
                self.fails(before + "@", 3)
            before += token + " "
        self.loads(before, 2, 2)

    def test_the_allowed_ones(self):
        self.loads("measures a down, b up; item x : -5, 5;", 2, 1)
        self.loads("measures a down; item x : 5;", 1, 1)

    def test_too_few_and_too_many_values(self):
        self.fails("measures a up, b up; item x : 1 @;", 3)
        self.fails("measures a up, b up; item x : 1, 2 @, 3;", 3)
        self.fails("measures a up; item x : @;", 3)
        self.fails("measures a up, b up, c up, d up; item x : 1, 2, 3, 4 @, 5;", 3)

    def test_no_measures(self):
        self.fails("measures @;", 3)
        self.fails("@item x : 1;", 3)

    def test_two_signs(self):
        self.fails("measures a up; item x : -@-1;", 3)

    def test_great_number_where_none_is_allowed(self):
        self.fails("measures @1001 up;", 3)
        self.fails("measures a up; item x : 1 @2000;", 3)


class TooManyTest(LoadTest):

    def test_fifth_measure(self):
        four = ", ".join(MEASURES[:4])
        self.fails(f"measures {four}, @m4 up ;", 4)
        self.fails(f"measures {four}, @m4", 4)
        self.fails(f"measures {four}, @m4 ;", 4)

    def test_no_name_behind_the_fourth(self):
        four = ", ".join(MEASURES[:4])
        self.fails(f"measures {four}, @;", 3)
        self.fails(f"measures {four}, @up", 3)
        self.fails(f"measures {four}, @", 3)

    def test_fifth_measure_with_an_earlier_name(self):
        self.fails(f"measures {', '.join(MEASURES[:4])}, @m0 up ;", 4)

    def test_seventeenth_item(self):
        sixteen = "measures a up ;" + "".join(ITEMS[:16])
        self.fails(f"{sixteen} @item i16 : 1 ;", 4)
        self.fails(f"{sixteen} @item", 4)
        self.fails(f"{sixteen} @item i0 : 2000 ;", 4)
        self.fails(f"{sixteen} @;", 3)
        self.fails(f"{sixteen} @i16", 3)


class NameTwiceTest(LoadTest):

    def test_measures(self):
        self.fails("measures a up, @a up;", 5)
        self.fails("measures a up, b down, @a", 5)
        self.fails("measures a up, b down, c up, @b ;", 5)

    def test_items(self):
        self.fails("measures a up; item x : 1; item @x : 1;", 5)
        self.fails("measures a up; item x : 1; item y : 2; item @x", 5)
        self.fails("measures a up; item x : 1; item y : 2; item z : 3; item @y item", 5)

    def test_great_and_small_letters_differ(self):
        self.loads("measures a up, A up; item x : 1, 1; item X : 1, 1;", 2, 2)

    def test_a_beginning_is_another_name(self):
        self.loads("measures a up, ab up; item abcdefghijklmnop : 1, 1; item abcdefghijklmno : 1, 1;", 2, 2)


class TooGreatTest(LoadTest):

    def test_above_a_thousand(self):
        for number in "1001", "1010", "2000", "999999999", "1000000000":
            self.fails(f"measures a up; item x : @{number};", 7)
            self.fails(f"measures a up; item x : -@{number};", 7)
            self.fails(f"measures a up; item x : - # far\n @{number};", 7)
            self.fails(f"measures a up, b up; item x : 1, @{number}", 7)


class FirstOfSeveralTest(LoadTest):

    def test_left_to_right(self):
        self.fails("measures a up, @a 5;", 5)
        self.fails("measures a @5, a up;", 3)
        self.fails("measures a up; item x : @1001 , , ;", 7)
        self.fails("measures a up; item x : 1 @, 1001;", 3)
        self.fails("measures a up; item x : @2000; item x : 1;", 7)
        self.fails("measures a up; item x : 1; item @x : 2000;", 5)
        self.fails("measures a up, b up, c up, d up, @e up; item x : 2000;", 4)
        self.fails("measures a up, @a up, b up, c up, d up;", 5)


class NothingChangesTest(unittest.TestCase):

    FAULTS = "x" * 4097, "measures ?", "measures", "measures a up, b up, c up, d up, e", "measures a up, a", \
        "measures b up; item x : 1001;", "measures a up; item y : 5"

    def test_the_list_held_stays(self):
        first = "measures a up ;\nitem x : 7 ;\n"
        for text in self.FAULTS:
            self.assertEqual(told(load(first), shown(), load(text), shown())[3], [len(first), *first.encode()])

    def test_none_held_stays_none(self):
        for text in self.FAULTS:
            self.assertEqual(last(load(text), shown()), [-1])

    def test_the_next_right_one_is_held(self):
        second = "measures b down ;\n"
        self.assertEqual(told(load(WORKED), load("up"), load(second), shown()),
                         [[1, 2, 5], [0, 3, 0], [1, 1, 0], [len(second), *second.encode()]])


if __name__ == "__main__":
    unittest.main()
