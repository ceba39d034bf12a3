"""load: the tokens of a text, blanks, remarks, and fault 2."""

import unittest

from helper import bytes_of, last, load


class TokenTest(unittest.TestCase):

    def loads(self, text, measures, items):
        self.assertEqual(last(load(text)), [1, measures, items], text)

    def fails(self, marked, fault):
        """The place of the fault is marked by the only @ of the text."""
        place = marked.index("@")
        self.assertEqual(last(load(marked.replace("@", ""))), [0, fault, place], marked)

    def fails_at_byte(self, before, byte, after):
        text = bytes_of(before) + [byte] + bytes_of(after)
        self.assertEqual(last(load(text)), [0, 2, len(before)], byte)


class BlanksTest(TokenTest):

    def test_each_blank_parts_tokens(self):
        for blank in " ", "\t", "\n", " \t\n\n ":
            text = " measures a up , b down ; item x : 1 , - 2 ; ".replace(" ", blank)
            self.loads(text, 2, 1)

    def test_no_blanks_where_tokens_part_by_themselves(self):
        self.loads("measures a up,b down;item x:1,-2;item y:-3,0;", 2, 2)

    def test_no_blank_between_number_and_word(self):
        self.fails("measures a up;item x:1@item", 3)
        self.fails("measures a up;item @1x:1;", 3)

    def test_letters_and_digits_go_on(self):
        self.fails("@measuresa up;", 3)
        self.fails("measures aup@;", 3)
        self.fails("measures a @up1;", 3)
        self.fails("measures a up; @item1 x: 1;", 3)

    def test_other_bytes_are_no_blanks(self):
        for byte in (0, 8, 11, 12, 13, 31, 33, 34, 36, 37, 43, 46, 47, 60, 64, 91, 95, 96, 123, 126, 127, 128,
                     160, 194, 223, 255):
            self.fails_at_byte("measures a up ", byte, ";")
            self.fails_at_byte("", byte, "measures a up;")
            self.fails_at_byte("measures a", byte, " up;")
            self.fails_at_byte("measures a up; item x : 1", byte, ";")
            self.fails_at_byte("measures a up; ", byte, "")


class RemarksTest(TokenTest):

    def test_between_any_two_tokens_and_at_both_ends(self):
        text = "@measures@a@up@,@b@down@;@item@x@:@1@,@-@2@;@"
        self.loads(text.replace("@", "#item; # 00 ?\n"), 2, 1)
        self.loads(text.replace("@", " #\n"), 2, 1)
        self.loads(text.replace("@", "#\n#\n\n"), 2, 1)

    def test_parts_tokens(self):
        self.fails("measures a#\n@b up;", 3)
        self.fails("measures a up; item x : 1#\n@0;", 3)

    def test_end_of_text_ends_it(self):
        self.loads("measures a up;#", 1, 0)
        self.loads("measures a up;# item", 1, 0)
        self.loads("measures a up; item x : 5 ;  # no more", 1, 1)

    def test_any_byte_in_it(self):
        every = [byte for byte in range(256) if byte != 10]
        self.loads(bytes_of("measures #") + every + bytes_of("\na up;#") + every, 1, 0)

    def test_ends_before_the_line_feed_alone(self):
        self.loads("measures a up; # x\r item x : 1; ?", 1, 0)
        self.loads("measures a up; # x\n item x : 1;", 1, 1)

    def test_hides_tokens(self):
        self.fails("measures a up #;\n@", 3)
        self.fails("#measures a up;@", 3)


class NamesTest(TokenTest):

    def test_sixteen_bytes(self):
        self.loads("measures abcdefghijklmnop up; item A234567890123456 : 1;", 1, 1)
        self.loads("measures a up; item measuresmeasures : 1;", 1, 1)

    def test_seventeen_bytes(self):
        self.fails("measures @abcdefghijklmnopq up;", 2)
        self.fails("measures a up; item @A2345678901234567 : 1;", 2)
        self.fails("@measuresmeasuresm a up;", 2)

    def test_first_and_last_letters_and_digits(self):
        self.loads("measures a up, z up, A up, Z up; item aA09zZ : 1, 2, 3, 4;", 4, 1)

    def test_words_are_no_names(self):
        for word in "measures", "up", "down", "item":
            self.fails(f"measures @{word} up;", 3)
            self.fails(f"measures a up; item @{word} : 1;", 3)

    def test_what_is_like_a_word_is_a_name(self):
        self.loads("measures Measures up, UP down, downs up, item1 down; item items : 1, 2, 3, 4; item u : 0, 0, 0, 0;",
                   4, 2)


class NumbersTest(TokenTest):

    def test_greatest_is_a_number(self):
        self.fails("measures a up; item x : @1000000000;", 7)
        self.fails("measures a up; item x : -@1000000000;", 7)

    def test_too_great(self):
        for number in "1000000001", "9999999999", "10000000000", "1" + "0" * 4000:
            self.fails(f"measures a up; item x : @{number};", 2)
            self.fails(f"measures a up; item x : -@{number};", 2)

    def test_zero_in_front(self):
        for number in "00", "01", "007", "0" * 4000, "01000000001":
            self.fails(f"measures a up; item x : @{number};", 2)
            self.fails(f"measures a up; item x : -@{number};", 2)

    def test_zero_alone(self):
        self.loads("measures a up, b up; item x : 0, -0; item y : - 0, 0;", 2, 2)

    def test_zeros_behind_or_in_a_name(self):
        self.loads("measures a00 up; item x01 : 100;", 1, 1)


class FirstFaultTwoTest(TokenTest):

    def test_before_earlier_faults_of_order(self):
        self.fails("; ; measures a up up @?", 2)
        self.fails("measures a up, a up; item x : 2000; item x : 1; @_", 2)
        self.fails("measures a up, b up, c up, d up, e up; @01", 2)

    def test_first_of_several(self):
        self.fails("measures a up; @? 00 _", 2)
        self.fails("measures a up; @00 ? _", 2)
        self.fails("measures a up; @abcdefghijklmnopq ? 1000000001", 2)
        self.fails("measures a up; @1000000001 abcdefghijklmnopq", 2)
        self.fails("measures # ?\n a @? #", 2)


class TextEndTest(TokenTest):

    def test_its_place_is_how_many_bytes_there_are(self):
        for text in "", "   ", "#", "# measures a up;", "\n#\n\t", "measures", "measures a up, ", "measures a up #;":
            self.fails(text + "@", 3)


if __name__ == "__main__":
    unittest.main()
