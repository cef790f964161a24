"""shown: the first way of a reading, by hand and against a slow check over all ways."""

import random
import unittest

from tests.helper import SHOWN, ask, joins, joins_text, last, lexicon_text, more, one_each, shown_words
from tests.helper import slow_shown, start, words


class Told(unittest.TestCase):
    def test_no_turn(self):
        self.assertEqual(ask(SHOWN), [[-4]])

    def test_each_pieces_place_sounds_word_and_choice(self):
        lexicon = words("ab X 0 0 1\ncde Y 0 0 1\n")
        self.assertEqual(last(lexicon, start("zabcdez"), SHOWN),
                         [4, 0, 0, 1, -1, 0, 1, 2, 0, 0, 3, 3, 1, 0, 6, 1, -1, 0])

    def test_it_may_be_asked_again(self):
        told = ask(words("ab X 0 0 1\n"), start("ab"), SHOWN, SHOWN)
        self.assertEqual(told[2:], [[1, 0, 0, 2, 0, 0]] * 2)

    def test_24_sounds(self):
        text = "abcdefgh A 0 0 1\nijkl B 0 0 1\nmnopqrstuvw C 0 0 1\n"
        self.assertEqual(last(words(text), start("abcdefghijklmnopqrstuvwx"), SHOWN),
                         [4, 0, 0, 8, 0, 0, 8, 4, 1, 0, 12, 11, 2, 0, 23, 1, -1, 0])
        whole = "abcdefghijklmnopqrstuvwx"
        self.assertEqual(last(words(f"{whole} A 0 0 1\n"), start(whole), SHOWN), [1, 0, 0, 24, 0, 0])

    def test_words_longer_than_the_reading(self):
        lexicon = words(f"{'a' * 32} A 0 0 0\naaa B 0 0 0\nab C 0 0 0\n")
        self.assertEqual(last(lexicon, start("aa"), SHOWN), one_each("aa"))
        self.assertEqual(last(words(f"{'a' * 32} A 0 0 0\n"), start("a" * 24), SHOWN), one_each("a" * 24))


class Cost(unittest.TestCase):
    def test_the_least_cost(self):
        lexicon = words("a A 0 0 10\nb B 0 0 10\nab C 0 0 19\n")
        self.assertEqual(shown_words(lexicon, start("ab")), [1])
        lexicon = words("a A 0 0 10\nb B 0 0 10\nab C 0 0 21\n")
        self.assertEqual(shown_words(lexicon, start("ab")), [0, 2])

    def test_by_itself_of_sort_0(self):
        lexicon = words("a A 1 1 10\n")
        self.assertEqual(shown_words(lexicon, joins("8\n0 1 1\n"), start("a")), [-1])
        self.assertEqual(shown_words(lexicon, joins("8\n0 0 1\n"), start("a")), [0])

    def test_the_join_before_the_first_piece(self):
        lexicon = words("a A 1 5 10\na B 2 5 10\n")
        self.assertEqual(shown_words(lexicon, joins("99\n0 1 1\n"), start("a")), [1])
        self.assertEqual(shown_words(lexicon, joins("99\n5 1 1\n"), start("a")), [0])

    def test_the_join_behind_the_last_piece(self):
        lexicon = words("a A 5 1 10\na B 5 2 10\n")
        self.assertEqual(shown_words(lexicon, joins("99\n1 0 1\n"), start("a")), [1])
        self.assertEqual(shown_words(lexicon, joins("99\n1 5 1\n"), start("a")), [0])
        # In the middle the join of a right sort to 0 is asked before a sound by itself alone.
        self.assertEqual(shown_words(lexicon, joins("99\n1 5 1\n"), start("aa")), [1, 0])
        self.assertEqual(shown_words(lexicon, joins("99\n1 0 1\n"), start("aa")), [0, 1])

    def test_the_join_between_two(self):
        lexicon = words("a A 1 2 10\nb B 3 4 10\nb C 5 6 12\n")
        self.assertEqual(shown_words(lexicon, joins("99\n2 3 1\n"), start("ab")), [0, 1])
        self.assertEqual(shown_words(lexicon, joins("99\n2 3 3\n"), start("ab")), [0, 2])
        self.assertEqual(shown_words(lexicon, joins("99\n3 2 3\n"), start("ab")), [0, 1])

    def test_what_comes_later_decides(self):
        # By each step's own cost "a" would be A; but behind A "b" is dear.
        lexicon = words("a A 0 1 1\na B 0 2 5\nb C 3 0 1\n")
        self.assertEqual(shown_words(lexicon, joins("99\n1 3 50\n"), start("ab")), [1, 2])

    def test_costs_are_added_up_whole(self):
        lexicon = words("ab B 0 0 60000\nc D 0 0 60000\na A 0 0 65535\nbc C 0 0 1\n")
        self.assertEqual(shown_words(lexicon, start("abc")), [0, 2])
        lexicon = words("ab B 0 0 65535\nc D 0 0 1\na A 0 0 0\nbc C 0 0 65535\n")
        self.assertEqual(shown_words(lexicon, start("abc")), [0, 2])


class Ties(unittest.TestCase):
    def test_the_longer_first_piece_first(self):
        lexicon = words("a A 0 0 5\nab B 0 0 10\nb C 0 0 5\n")
        self.assertEqual(shown_words(lexicon, start("ab")), [1])
        lexicon = words("a A 0 0 5\nab B 0 0 5\nb C 0 0 5\nabc D 0 0 10\nbc E 0 0 5\nc F 0 0 5\n")
        self.assertEqual(shown_words(lexicon, start("abc")), [2])
        lexicon = words("a A 0 0 5\nab B 0 0 5\nbc E 0 0 5\nc F 0 0 5\n")
        self.assertEqual(shown_words(lexicon, start("abc")), [1, 3])

    def test_a_longer_one_whatever_its_number(self):
        # "ab" has a greater number than "aa", the same length; "a" is less and shorter.
        lexicon = words("a A 0 0 0\naa B 0 0 0\nab C 0 0 0\nb D 0 0 0\n")
        self.assertEqual(shown_words(lexicon, start("aaab")), [1, 2])
        self.assertEqual(shown_words(lexicon, start("aab")), [1, 3])

    def test_the_first_difference_decides(self):
        # The first piece is the same; of the second the longer one comes first.
        lexicon = words("x X 0 0 0\na A 0 0 5\nab B 0 0 5\nbc C 0 0 5\nc D 0 0 5\n")
        self.assertEqual(shown_words(lexicon, start("xabc")), [4, 1, 3])

    def test_a_word_before_the_sound_by_itself(self):
        self.assertEqual(shown_words(words("a A 0 0 7\n"), joins("7\n"), start("a")), [0])
        self.assertEqual(shown_words(words("a A 0 0 7\n"), joins("7\n"), start("aba")), [0, -1, 0])

    def test_the_lesser_number_first(self):
        self.assertEqual(shown_words(words("a B 0 0 7\na A 0 0 7\na C 0 0 7\n"), start("aa")), [0, 0])
        # Of one cost together, though not by their own.
        lexicon = words("a A 1 0 7\na B 0 0 9\n")
        self.assertEqual(shown_words(lexicon, joins("99\n0 1 2\n"), start("a")), [0])
        self.assertEqual(shown_words(lexicon, joins("99\n0 1 3\n"), start("a")), [1])

    def test_the_cost_before_all_else(self):
        lexicon = words("a A 0 0 5\nab B 0 0 11\nb C 0 0 5\n")
        self.assertEqual(shown_words(lexicon, start("ab")), [0, 2])


class SlowCheck(unittest.TestCase):
    """Small costs, so that many ways cost the same; few sounds, so that many words stand there."""

    def random_lexicon(self, source, costs):
        lexicon = {}
        for step in range(source.randint(0, 9)):
            reading = "".join(source.choices("ab\u3042", k=source.randint(1, 4)))
            text = "".join(source.choices("AB\U00010000", k=source.randint(1, 2)))
            sorts = (source.randint(0, 3), source.randint(0, 3))
            lexicon[(reading, text)] = (reading, text) + sorts + (source.randint(0, costs),)
        return list(lexicon.values())

    def random_table(self, source, costs):
        table = {}
        for step in range(source.randint(0, 8)):
            table[(source.randint(0, 3), source.randint(0, 3))] = source.randint(0, costs)
        return table

    def check(self, source, costs, longest):
        lexicon = self.random_lexicon(source, costs)
        table = self.random_table(source, costs)
        alone = source.randint(0, 2 * costs)
        reading = "".join(source.choices("aab\u3042", k=source.randint(1, longest)))
        part = source.randint(1, len(reading))
        expected = slow_shown(lexicon, alone, table, reading)
        told = [words(lexicon_text(lexicon)), joins(joins_text(alone, table))]
        behind = [more(reading[part:])] if part < len(reading) else []
        if expected is None:
            self.assertEqual(last(*told, start(reading)), [-6])
            return
        self.assertEqual(last(*told, start(reading), SHOWN), expected, (lexicon, alone, table, reading))
        self.assertEqual(last(*told, start(reading[:part]), *behind, SHOWN), expected)

    def test_small_readings(self):
        for costs in (0, 1, 2, 5, 40, 20000):
            source = random.Random(costs)
            for trial in range(250):
                self.check(source, costs, 7)

    def test_longer_readings(self):
        source = random.Random(99)
        for trial in range(60):
            self.check(source, 3, 11)


if __name__ == "__main__":
    unittest.main()
