"""joins: the joins' text, its faults."""

import unittest

from tests.helper import SHOWN, ask, joins, last, more, shown_words, start, words

# By itself, or one of three words that differ in their sorts.
LEXICON = words("a A 1 2 10\na B 3 4 11\na C 0 0 12\n")


class Right(unittest.TestCase):
    def test_how_many_that_do_not_cost_0(self):
        self.assertEqual(ask(joins("0\n")), [[0]])
        self.assertEqual(ask(joins("65535\n")), [[0]])
        self.assertEqual(ask(joins("5\n0 0 1\n")), [[1]])
        self.assertEqual(ask(joins("5\n0 0 0\n")), [[0]])
        self.assertEqual(ask(joins("5\n9 9 0\n0 1 1\n1 0 2\n1 1 0\n255 255 65535\n")), [[3]])

    def test_what_a_sound_costs_by_itself(self):
        for cost, expected in (("9", -1), ("10", 0), ("0", -1), ("65535", 0)):
            self.assertEqual(shown_words(LEXICON, joins(cost + "\n"), start("a")), [expected])

    def test_right_before_left(self):
        # Before the first piece stands sort 0, and behind the last.
        self.assertEqual(shown_words(LEXICON, joins("99\n0 1 5\n"), start("a")), [1])
        self.assertEqual(shown_words(LEXICON, joins("99\n1 0 5\n"), start("a")), [0])
        self.assertEqual(shown_words(LEXICON, joins("99\n2 0 5\n"), start("a")), [1])
        self.assertEqual(shown_words(LEXICON, joins("99\n0 2 5\n"), start("a")), [0])
        self.assertEqual(shown_words(LEXICON, joins("99\n0 1 5\n4 0 2\n"), start("a")), [2])

    def test_joins_that_no_line_tells_cost_0(self):
        self.assertEqual(shown_words(LEXICON, joins("99\n7 7 65535\n"), start("a")), [0])

    def test_a_text_takes_the_place_of_the_one_before(self):
        told = [LEXICON, joins("99\n0 1 5\n0 3 5\n")]
        self.assertEqual(shown_words(*told, start("a")), [2])
        self.assertEqual(shown_words(*told, joins("99\n0 3 5\n"), start("a")), [0])
        self.assertEqual(shown_words(*told, joins("99\n0 1 0\n"), start("a")), [0])
        self.assertEqual(shown_words(*told, joins("1\n"), start("a")), [-1])

    def test_the_greatest_sorts(self):
        lexicon = words("a A 255 255 0\na B 255 254 1\n")
        self.assertEqual(shown_words(lexicon, joins("65535\n255 255 2\n"), start("aa")), [1, 0])

    def test_a_turn_under_way_is_over(self):
        self.assertEqual(ask(start("a"), joins("1\n"), SHOWN, more("a")), [[0], [0], [-4], [-4]])


class Faults(unittest.TestCase):
    def fault(self, text, number, kind):
        self.assertEqual(ask(joins(text)), [[-2, number, kind]], repr(text))

    def wrong(self, text, kind):
        """A wrong line of a join: the first of its kind, behind right ones, before wrong ones."""
        self.fault("5\n" + text, 1, kind)
        self.fault("5\n7 7 7\n8 8 0\n" + text, 3, kind)
        if text.endswith("\n"):
            self.fault("5\n" + text + "\n", 1, kind)
            self.fault("5\n" + text + "0 0 65536\n", 1, kind)

    def test_no_first_line(self):
        self.fault("", 0, 1)

    def test_a_first_line_that_is_none(self):
        for text in ("\n", " \n", "5", "05\n", "00\n", "x\n", "-1\n", "+1\n", "5 \n", " 5\n", "5 5\n", "0 0 5\n",
                     "5\r\n", "5\t\n", "1x\n", "\uff11\n", "65536", "70000 0\n"):
            self.fault(text, 0, 1)
            self.fault(text + "1 2 3\n" if text.endswith("\n") else text, 0, 1)
        self.fault(b"\xff\n", 0, 1)

    def test_a_first_line_that_is_too_much(self):
        self.assertEqual(ask(joins("65535\n")), [[0]])
        for number in ("65536", "100000", "9" * 4000):
            self.fault(number + "\n", 0, 2)
            self.fault(number + "\n\n", 0, 2)

    def test_lines_that_are_none(self):
        for text in ("\n", "5\n", "1 2\n", "1 2 3 4\n", "1 2 3 \n", " 1 2 3\n", "1  2 3\n", "1  3\n", "1 2 \n",
                     "01 2 3\n", "1 02 3\n", "1 2 03\n", "00 0 0\n", "0 00 0\n", "0 0 00\n", "x 2 3\n", "1 x 3\n",
                     "1 2 x\n", "-1 2 3\n", "1 2 +3\n", "1 2 3\r\n", "1\t2\t3\n", "1 2 3", "1", " ", "256 2 3",
                     "1 2 \u0663\n", "256 01 3\n", "1 2 65536 0\n"):
            self.wrong(text, 1)
        self.fault(b"5\n1 2 \x80\n", 1, 1)

    def test_sorts_and_costs_that_are_too_much(self):
        self.assertEqual(ask(joins("5\n255 0 1\n0 255 65535\n")), [[2]])
        for text in ("256 0 1\n", "0 256 1\n", "0 0 65536\n", "1000 0 0\n", "0 70000 0\n", "0 0 100000\n",
                     "999999999999 0 0\n"):
            self.wrong(text, 2)

    def test_two_sorts_told_twice(self):
        self.fault("5\n1 2 3\n1 2 3\n", 2, 3)
        self.fault("5\n1 2 3\n2 1 3\n1 2 4\n", 3, 3)
        self.fault("5\n1 2 3\n1 2 0\n", 2, 3)
        self.fault("5\n1 2 0\n1 2 3\n", 2, 3)
        self.fault("5\n0 0 0\n0 0 0\n\n", 2, 3)
        self.assertEqual(ask(joins("5\n1 2 3\n2 1 3\n1 1 3\n12 1 1\n1 21 1\n")), [[5]])

    def test_of_one_line_the_least_kind(self):
        self.fault("5\n1 2 3\n1 2 65536\n", 2, 2)
        self.fault("5\n1 2 3\n1 2 03\n", 2, 1)
        self.fault("5\n1 2 3\n1 2 3", 2, 1)

    def test_of_several_lines_the_first(self):
        self.fault("65536\n\n", 0, 2)
        self.fault("5\n256 0 0\n\n", 1, 2)
        self.fault("5\n1 1 1\n1 1 1\n256 0 0\nx", 2, 3)

    def test_many_lines(self):
        text = "5\n" + "".join([f"{right} {left} 1\n" for right in range(10) for left in range(50)])
        self.assertLessEqual(len(text), 4096)
        self.assertEqual(ask(joins(text)), [[500]])


class Refused(unittest.TestCase):
    def test_the_object_is_as_it_was(self):
        before = [LEXICON, joins("99\n0 1 5\n0 3 5\n"), start("a")]
        shown = last(*before, SHOWN)
        for text in ("", "0\n\n", "0\n1 1 1\n1 1 1\n", "0\n256 0 0\n", "65536\n"):
            told = ask(*before, joins(text), SHOWN, more("b"), start("a"), SHOWN)
            self.assertEqual(told[3][0], -2)
            self.assertEqual(told[4:], [shown, [0], [0], shown])


if __name__ == "__main__":
    unittest.main()
