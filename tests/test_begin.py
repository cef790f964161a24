"""begin, and what a new object holds."""

import unittest

from tests.helper import BEGIN, SHOWN, ask, joins, last, more, one_each, shown_words, start, words

USED = [words("a A 1 1 0\nb B 2 2 0\n"), joins("0\n1 2 65535\n"), start("ab")]

# "a" by itself and "bc" cost what a sound costs by itself; "ab" and "c" cost 65,535 and what's told here.
AGAINST_BY_ITSELF = "ab X 0 0 65535\nbc Y 0 0 0\nc Z 0 0 {}\n"


class Begin(unittest.TestCase):
    def test_answers_0(self):
        self.assertEqual(ask(BEGIN, BEGIN), [[0], [0]])
        self.assertEqual(last(*USED, BEGIN), [0])

    def test_no_turn(self):
        self.assertEqual(ask(*USED, BEGIN, SHOWN, more("a"))[-2:], [[-4], [-4]])
        self.assertEqual(ask(SHOWN, more("a")), [[-4], [-4]])

    def test_no_words(self):
        self.assertEqual(last(*USED, BEGIN, start("ab"), SHOWN), one_each("ab"))
        self.assertEqual(last(start("ab"), SHOWN), one_each("ab"))

    def test_all_joins_0(self):
        # With the join from 1 to 2 "a" would be by itself.
        lexicon = words("a A 1 1 65535\na B 0 0 65535\nb C 2 2 0\n")
        self.assertEqual(shown_words(joins("65535\n1 2 1\n"), lexicon, start("ab")), [1, 2])
        self.assertEqual(shown_words(joins("65535\n1 2 1\n"), BEGIN, lexicon, start("ab")), [0, 2])

    def check_by_itself(self, before):
        same = words(AGAINST_BY_ITSELF.format(0))
        more_by_1 = words(AGAINST_BY_ITSELF.format(1))
        # Of one cost the longer first piece comes first; by one more, "a" by itself is less.
        self.assertEqual(shown_words(*before, same, start("abc")), [0, 2])
        self.assertEqual(shown_words(*before, more_by_1, start("abc")), [-1, 1])

    def test_a_sound_by_itself_costs_65535(self):
        self.check_by_itself([])
        self.check_by_itself([BEGIN])
        self.check_by_itself([*USED, BEGIN])


if __name__ == "__main__":
    unittest.main()
