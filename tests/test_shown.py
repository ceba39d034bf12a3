"""shown: the one form."""

import unittest

from helper import WORKED, load, shown, small_lists, text_of, told


class ShownTest(unittest.TestCase):

    def shows(self, text, form):
        self.assertEqual(told(load(text), shown())[1], [len(form), *form.encode("ascii")], text)

    def test_worked(self):
        self.shows(WORKED, "measures price down, size up ;\nitem a : 10, 5 ;\nitem b : 8, 3 ;\n"
                           "item c : 12, 9 ;\nitem d : 12, 5 ;\nitem e : 8, 3 ;\n")

    def test_no_items(self):
        self.shows("measures a up;", "measures a up ;\n")
        self.shows("measures a up,b down,c down,d up;", "measures a up, b down, c down, d up ;\n")

    def test_one_measure(self):
        self.shows("measures abcdefghijklmnop down;item X1:3;", "measures abcdefghijklmnop down ;\nitem X1 : 3 ;\n")

    def test_signs_and_zeros(self):
        self.shows("measures a up, b up, c up, d down; item x : -1, - 20, -0, 0; item y: 1000, -1000, - 0, 10;",
                   "measures a up, b up, c up, d down ;\nitem x : -1, -20, 0, 0 ;\nitem y : 1000, -1000, 0, 10 ;\n")

    def test_no_blanks_and_no_remarks_are_kept(self):
        self.shows("# cheap\n\tmeasures#\na\nup#\n;#;\nitem x\t:\n\n-#\n5; # end", "measures a up ;\nitem x : -5 ;\n")

    def test_the_form_of_a_form_is_itself(self):
        for ways, rows in list(small_lists())[::50]:
            text = text_of(ways, rows)
            [count, *form] = told(load(text), shown())[1]
            self.assertEqual(count, len(form))
            self.assertEqual(told(load(form), shown()), [[1, len(ways), len(rows)], [count, *form]])

    def test_the_longest(self):
        measures = ", ".join(f"abcdefghijklmno{number} down" for number in range(4))
        lines = "".join(f"item ABCDEFGHIJKLMN{number} : -1000, -1000, -1000, -1000 ;\n" for number in range(10, 26))
        self.shows(f"measures {measures} ;\n{lines}", f"measures {measures} ;\n{lines}")

    def test_no_list(self):
        self.assertEqual(told(shown()), [[-1]])


if __name__ == "__main__":
    unittest.main()
