"""start and more: a turn, its reading, and what's refused."""

import unittest

from tests.helper import BEGIN, SHOWN, ask, joins, last, more, one_each, shown_words, start, words

NO_CHARACTERS = (0xD800, 0xDBFF, 0xDC00, 0xDFFF, 0x110000, 0x110001, 0xFFFFFFFF)
CHARACTERS = (0, 0x0A, 0x20, 0x7F, 0x80, 0xD7FF, 0xE000, 0xFFFF, 0x10FFFF)

# Each "a" is a word or by itself: two ways a sound.
TWO_WAYS = words("a A 0 0 1\n")


class Start(unittest.TestCase):
    def test_answers_0(self):
        self.assertEqual(ask(start("a"), SHOWN), [[0], one_each("a")])

    def test_whatever_was_under_way(self):
        self.assertEqual(ask(start("abc"), start("d"), SHOWN), [[0], [0], one_each("d")])
        self.assertEqual(ask(start("d"), more("e"), start("abc"), SHOWN)[3], one_each("abc"))

    def test_1_to_24_sounds(self):
        self.assertEqual(ask(start("a"), start("b" * 24), SHOWN), [[0], [0], one_each("b" * 24)])
        self.assertEqual(ask(start(""), start("b" * 25), start("b" * 100)), [[-1]] * 3)

    def test_characters(self):
        for number in CHARACTERS:
            self.assertEqual(ask(start([97, number]), SHOWN), [[0], one_each("ab")], hex(number))
        for number in NO_CHARACTERS:
            for reading in ([number], [97, number], [number, 97], [97] * 23 + [number]):
                self.assertEqual(ask(start(reading)), [[-3]], hex(number))

    def test_1024_ways(self):
        self.assertEqual(last(TWO_WAYS, start("a" * 10)), [0])
        self.assertEqual(last(TWO_WAYS, start("a" * 10 + "b" * 14)), [0])
        self.assertEqual(shown_words(TWO_WAYS, start("a" * 10)), [0] * 10)
        self.assertEqual(last(TWO_WAYS, start("a" * 11)), [-6])
        self.assertEqual(last(TWO_WAYS, start("a" * 24)), [-6])

    def test_1025_ways(self):
        lexicon = words("a A 0 0 1\naaaaaaaaaa B 0 0 1\n")
        self.assertEqual(last(lexicon, start("a" * 10)), [-6])
        self.assertEqual(last(lexicon, start("a" * 9 + "b")), [0])

    def test_ways_that_write_the_same_count_each(self):
        lexicon = words("a a 0 0 1\n")
        self.assertEqual(ask(lexicon, start("a" * 10), start("a" * 11)), [[1], [0], [-6]])

    def test_ways_by_words_of_several_lengths(self):
        # 1, 2, 4, 7, 13, 24 ..: each is the sum of the three before it.
        lexicon = words("aa B 0 0 0\naaa C 0 0 0\n")
        self.assertEqual(ask(lexicon, start("a" * 12), start("a" * 13)), [[2], [0], [-6]])
        self.assertEqual(ask(words("aa B 0 0 0\n"), start("a" * 15), start("a" * 16)), [[1], [0], [-6]])

    def test_many_words_of_one_reading(self):
        text = "".join([f"a w{number} 0 0 0\n" for number in range(31)])
        self.assertEqual(ask(words(text), start("aa"), start("aab"), start("aaa")), [[31], [0], [0], [-6]])

    def test_order_of_refusals(self):
        self.assertEqual(ask(start([0xD800] * 25)), [[-1]])
        self.assertEqual(ask(TWO_WAYS, start("a" * 25)), [[1], [-1]])
        self.assertEqual(ask(TWO_WAYS, start([97] * 20 + [0xD800])), [[1], [-3]])

    def test_refused_the_turn_goes_on(self):
        for refused in ("", "b" * 25, [0xD800], "a" * 11):
            told = ask(TWO_WAYS, start("ab"), more("c"), start(refused), SHOWN, more("d"), SHOWN)
            self.assertLess(told[3][0], 0)
            self.assertEqual(told[4], [3, 0, 0, 1, 0, 0, 1, 1, -1, 0, 2, 1, -1, 0])
            self.assertEqual(told[6], [4, 0, 0, 1, 0, 0, 1, 1, -1, 0, 2, 1, -1, 0, 3, 1, -1, 0])

    def test_refused_no_turn_comes_of_it(self):
        for refused in ("", "b" * 25, [0xD800], "a" * 11):
            self.assertEqual(last(TWO_WAYS, start(refused), SHOWN), [-4])


class More(unittest.TestCase):
    def test_answers_0(self):
        self.assertEqual(ask(start("a"), more("b"), SHOWN), [[0], [0], one_each("ab")])
        self.assertEqual(ask(start("a"), more("bc"), more("d"), SHOWN)[3], one_each("abcd"))

    def test_sounds_stand_behind_the_reading(self):
        lexicon = words("ab A 0 0 1\nba B 0 0 1\n")
        self.assertEqual(shown_words(lexicon, start("a"), more("b")), [0])
        self.assertEqual(shown_words(lexicon, start("b"), more("a")), [1])

    def test_all_is_weighed_anew(self):
        lexicon = words("a A 0 0 1\nb B 0 0 1\nabc C 0 0 2\n")
        told = ask(lexicon, start("a"), more("b"), SHOWN, more("c"), SHOWN)
        self.assertEqual(told[3], [2, 0, 0, 1, 0, 0, 1, 1, 2, 0])
        self.assertEqual(told[5], [1, 0, 0, 3, 1, 0])

    def test_words_and_joins_stay(self):
        table = joins("9\n0 1 6\n")
        lexicon = words("b A 1 1 1\nb B 0 0 2\n")
        self.assertEqual(shown_words(lexicon, table, start("a"), more("b")), [-1, 1])
        self.assertEqual(shown_words(table, lexicon, start("a"), more("b"), start("b")), [1])

    def test_refused_of_no_sound_and_of_more_than_24(self):
        self.assertEqual(ask(start("a"), more(""), more("b" * 25), more("b" * 100)), [[0], [-1], [-1], [-1]])

    def test_no_turn(self):
        self.assertEqual(ask(more("a")), [[-4]])
        self.assertEqual(last(start("a"), BEGIN, more("a")), [-4])
        self.assertEqual(last(start("a"), words(""), more("a")), [-4])
        self.assertEqual(last(start("a"), joins("1\n"), more("a")), [-4])

    def test_characters(self):
        for number in CHARACTERS:
            self.assertEqual(ask(start("a"), more([number]), SHOWN), [[0], [0], one_each("ab")], hex(number))
        for number in NO_CHARACTERS:
            for reading in ([number], [97, number], [number, 97]):
                self.assertEqual(ask(start("a"), more(reading)), [[0], [-3]], hex(number))

    def test_24_sounds_together(self):
        self.assertEqual(ask(start("b" * 20), more("b" * 4), SHOWN), [[0], [0], one_each("b" * 24)])
        self.assertEqual(ask(start("b"), more("b" * 23), more("b")), [[0], [0], [-6]])
        self.assertEqual(ask(start("b" * 20), more("b" * 5)), [[0], [-6]])
        self.assertEqual(ask(start("b" * 24), more("b" * 24)), [[0], [-6]])

    def test_1024_ways_together(self):
        self.assertEqual(ask(TWO_WAYS, start("a" * 5), more("a" * 5)), [[1], [0], [0]])
        self.assertEqual(ask(TWO_WAYS, start("a" * 5), more("a" * 6)), [[1], [0], [-6]])
        self.assertEqual(ask(TWO_WAYS, start("a" * 10), more("b"), more("a")), [[1], [0], [0], [-6]])
        both = words("a A 0 0 1\naaaaaaaaaa B 0 0 1\n")
        self.assertEqual(ask(both, start("a" * 9), more("a")), [[2], [0], [-6]])

    def test_order_of_refusals(self):
        self.assertEqual(ask(more("")), [[-1]])
        self.assertEqual(ask(more([0xD800] * 25)), [[-1]])
        self.assertEqual(ask(more([0xD800])), [[-4]])
        self.assertEqual(ask(more("b" * 24)), [[-4]])
        self.assertEqual(ask(start("b" * 24), more("b" * 25), more([0xD800])), [[0], [-1], [-3]])
        self.assertEqual(ask(start("b" * 24), more([0xDFFF] * 25)), [[0], [-1]])
        self.assertEqual(ask(TWO_WAYS, start("a" * 10), more([97, 0xD800])), [[1], [0], [-3]])

    def test_refused_all_else_stays(self):
        for refused in ("", "b" * 25, [98, 0xD800], "b" * 23, "a" * 11):
            told = ask(TWO_WAYS, start("ab"), more(refused), SHOWN, more("c"), SHOWN, start("a"), SHOWN)
            self.assertLess(told[2][0], 0)
            self.assertEqual(told[3], [2, 0, 0, 1, 0, 0, 1, 1, -1, 0])
            self.assertEqual(told[5], [3, 0, 0, 1, 0, 0, 1, 1, -1, 0, 2, 1, -1, 0])
            self.assertEqual(told[7], [1, 0, 0, 1, 0, 0])


if __name__ == "__main__":
    unittest.main()
