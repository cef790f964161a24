"""could: what could stand where one is, what it would cost, and that choose has the same numbers."""

import unittest

from tests.helper import BACK, GREATEST, NARROWER, ON, SHOWN, WIDER, ask, choose, could, joins, last, more, offers
from tests.helper import pieces, start, state, take, words, written


class Told(unittest.TestCase):
    def test_how_many_characters_the_cost_and_they(self):
        lexicon = words("a \U00010000A\u3042 0 0 7\n")
        self.assertEqual(ask(lexicon, joins("9\n"), start("a"), could(0), could(1), could(2))[3:],
                         [[3, 7, 0x10000, 65, 0x3042], [1, 9, 97], [-5]])

    def test_the_longest_text(self):
        self.assertEqual(last(words(f"a {'W' * 32} 0 0 0\n"), start("a"), could(0)), [32, 0] + [87] * 32)

    def test_a_sound_that_may_not_stand_in_a_word(self):
        for sound in (0, 0x20, 0x7F, 0x10FFFF):
            self.assertEqual(last(start([sound]), could(0)), [1, 65535, sound])

    def test_no_words(self):
        self.assertEqual(offers(start("ab")), [("a", 131070)])
        self.assertEqual(ask(start("ab"), could(1), could(GREATEST)), [[0], [-5], [-5]])

    def test_pieces_of_so_many_sounds_alone(self):
        calls = [words("a A 0 0 9\nab B 0 0 1\nab C 0 0 2\nabc D 0 0 30\nb E 0 0 9\nbc F 0 0 9\n"), joins("20\n")]
        self.assertEqual(offers(*calls, start("abc")), [("A", 18), ("a", 29)])
        self.assertEqual(offers(*calls, start("abc"), WIDER, WIDER), [("D", 30)])
        self.assertEqual(offers(*calls, start("abd")), [("B", 21), ("C", 22)])
        self.assertEqual(offers(*calls, start("abd"), NARROWER), [("A", 38), ("a", 49)])

    def test_words_that_do_not_stand_there(self):
        calls = [words("a A 0 0 1\nb B 0 0 1\naa C 0 0 0\nba D 0 0 0\n"), joins("9\n"), start("ab")]
        self.assertEqual(offers(*calls), [("A", 2), ("a", 10)])
        self.assertEqual(offers(*calls, ON), [("B", 2), ("b", 10)])

    def test_nothing_is_settled_by_it(self):
        calls = [words("a A 0 0 1\na B 0 0 2\nab C 0 0 3\nb D 0 0 1\nbc E 0 0 0\n"), joins("9\n"), start("ab")]
        before = state(*calls)
        self.assertEqual(state(*calls, could(0), could(1), could(5)), before)
        self.assertEqual(written(*calls, could(0), could(1), more("c")), "AE")

    def test_128_words(self):
        text = "".join([f"a w{number} 0 0 {number * 7}\n" for number in range(128)])
        told = offers(words(text), joins("10\n"), start("ab"))
        expected = [(f"w{number}", number * 7 + 10) for number in range(128)] + [("a", 20)]
        self.assertEqual(told, sorted(expected, key=lambda offer: offer[1]))


class Weighed(unittest.TestCase):
    """What a piece would cost is weighed over the whole reading (Wrong 4)."""

    LEXICON = "x X 0 1 1\nb P 2 2 1\nb Q 3 3 5\ny Y 4 0 1\n"

    def test_the_join_before(self):
        calls = [words(self.LEXICON), start("xby"), ON]
        self.assertEqual(offers(joins("99\n1 2 4\n"), *calls), [("P", 7), ("Q", 7), ("b", 101)])
        self.assertEqual(offers(joins("99\n1 2 5\n"), *calls), [("Q", 7), ("P", 8), ("b", 101)])
        self.assertEqual(offers(joins("99\n2 1 5\n"), *calls), [("P", 3), ("Q", 7), ("b", 101)])

    def test_the_join_behind(self):
        calls = [words(self.LEXICON), start("xby"), ON]
        self.assertEqual(offers(joins("99\n2 4 4\n"), *calls), [("P", 7), ("Q", 7), ("b", 101)])
        self.assertEqual(offers(joins("99\n2 4 5\n"), *calls), [("Q", 7), ("P", 8), ("b", 101)])

    def test_the_joins_on_both_sides(self):
        calls = [words(self.LEXICON), start("xby"), ON]
        self.assertEqual(offers(joins("99\n1 2 2\n2 4 3\n"), *calls), [("Q", 7), ("P", 8), ("b", 101)])
        self.assertEqual(offers(joins("99\n1 0 2\n0 4 3\n"), *calls), [("P", 3), ("Q", 7), ("b", 106)])

    def test_the_joins_at_both_ends(self):
        calls = [words("a P 1 2 1\na Q 3 4 5\n"), start("a")]
        self.assertEqual(offers(joins("9\n0 1 5\n"), *calls), [("Q", 5), ("P", 6), ("a", 9)])
        self.assertEqual(offers(joins("9\n2 0 5\n"), *calls), [("Q", 5), ("P", 6), ("a", 9)])
        self.assertEqual(offers(joins("9\n0 0 1\n"), *calls), [("P", 1), ("Q", 5), ("a", 11)])

    def test_other_pieces_beside_it(self):
        # Beside P another word for x is the less dear one.
        calls = [words("x X 0 1 1\nx Z 0 5 4\nb P 2 2 1\nb Q 3 3 3\ny Y 4 0 1\n"), joins("99\n1 2 10\n"), start("xby")]
        self.assertEqual(offers(*calls, ON), [("Q", 5), ("P", 6), ("b", 101)])
        self.assertEqual(written(*calls, ON, choose(1)), "ZPY")
        self.assertEqual(written(*calls, ON, choose(0)), "XQY")

    def test_other_widths_beside_it(self):
        calls = [words("ab W 0 1 2\na A 0 0 2\nb B 0 3 2\nc C 2 0 1\nc E 4 0 3\n"), joins("99\n1 2 10\n"), start("abc")]
        self.assertEqual(written(*calls), "WE")
        # The first one is not what's shown, but costs as much: a word of less number.
        self.assertEqual(offers(*calls, ON), [("C", 5), ("E", 5), ("c", 101)])
        self.assertEqual(written(*calls, ON, choose(0)), "ABC")
        self.assertEqual(written(*calls, ON, choose(1)), "WE")

    def test_the_sort_before_the_first_piece(self):
        calls = [words("a A 0 1 1\nb B 2 0 1\nb C 3 0 4\n"), joins("99\n1 2 10\n0 3 20\n")]
        self.assertEqual(offers(*calls, start("b")), [("B", 1), ("C", 24), ("b", 99)])
        self.assertEqual(offers(*calls, start("ab"), ON), [("C", 5), ("B", 12), ("b", 100)])
        # What's taken costs nothing more, but its right sort stands before the rest.
        self.assertEqual(offers(*calls, start("ab"), take(1)), [("C", 4), ("B", 11), ("b", 99)])
        self.assertEqual(offers(*calls, start("abc"), take(1), ON), [("c", 103)])

    def test_what_is_settled_elsewhere_counts(self):
        calls = [words("a A 0 1 1\na B 0 2 5\nb C 3 0 1\nb D 4 0 3\n"), joins("99\n1 3 50\n2 4 70\n"), start("ab")]
        self.assertEqual(offers(*calls, ON), [("D", 4), ("C", 6), ("b", 100)])
        self.assertEqual(offers(*calls, choose(1), ON), [("C", 6), ("D", 78), ("b", 104)])

    def test_only_ways_with_that_piece(self):
        # W would stand over its beginning, for less than Q costs; so would Y over its end.
        calls = [words("a A 0 0 1\nab W 0 0 10\nb B 0 0 1\nb Q 0 0 50\nbc Y 0 0 10\nc C 0 0 1\n"), joins("99\n")]
        self.assertEqual(offers(*calls, start("abc"), ON), [("B", 3), ("Q", 52), ("b", 101)])
        self.assertEqual(offers(*calls, start("dabc"), take(1), ON), [("B", 3), ("Q", 52), ("b", 101)])

    def test_cuts_elsewhere_count(self):
        calls = [words("aa B 0 0 1\na A 0 0 5\nb C 0 0 1\n"), joins("99\n"), start("aab")]
        self.assertEqual(offers(*calls, ON), [("C", 2), ("b", 100)])
        self.assertEqual(offers(*calls, NARROWER, ON, ON), [("C", 11), ("b", 109)])

    def test_what_is_chosen_there_is_left_out(self):
        calls = [words("a A 0 0 1\na B 0 0 2\nb C 0 0 1\n"), joins("9\n"), start("ab")]
        for number in range(3):
            self.assertEqual(offers(*calls, choose(number)), [("A", 2), ("B", 3), ("a", 10)])


class Ties(unittest.TestCase):
    def test_by_the_words_number_the_sound_by_itself_last(self):
        self.assertEqual(offers(words("b Q 0 0 7\nb P 0 0 7\n"), joins("7\n"), start("b")),
                         [("P", 7), ("Q", 7), ("b", 7)])

    def test_of_one_cost_together(self):
        calls = [words("b Q 1 0 5\nb P 0 0 7\n"), start("b")]
        self.assertEqual(offers(joins("7\n0 1 2\n"), *calls), [("Q", 7), ("P", 7), ("b", 7)])
        self.assertEqual(offers(joins("7\n0 1 3\n"), *calls), [("P", 7), ("b", 7), ("Q", 8)])

    def test_the_sound_by_itself_before_what_costs_more(self):
        self.assertEqual(offers(words("b P 0 0 7\nb Q 0 0 8\n"), joins("7\n"), start("b")),
                         [("P", 7), ("b", 7), ("Q", 8)])
        self.assertEqual(offers(words("b P 0 0 7\n"), joins("6\n"), start("b")), [("b", 6), ("P", 7)])


class SameText(unittest.TestCase):
    """A word whose text is the sound itself writes what the sound by itself does (Wrong 5)."""

    def check(self, lexicon, table, told, chosen):
        calls = [words(lexicon), joins(table), start("b")]
        self.assertEqual(offers(*calls), told)
        self.assertEqual(last(*calls, choose(len(told))), [-5])
        self.assertEqual([pieces(*calls, choose(number))[0][2:] for number in range(len(told))],
                         [(word, 1) for word in chosen])

    def test_the_word_first(self):
        self.check("b b 0 0 5\n", "7\n", [("b", 5)], [0])
        self.check("b b 0 0 5\nb P 0 0 6\n", "7\n", [("b", 5), ("P", 6)], [0, 1])

    def test_the_sound_by_itself_first(self):
        self.check("b b 0 0 5\n", "4\n", [("b", 4)], [-1])
        self.check("b P 0 0 4\nb b 0 0 6\nb Q 0 0 7\n", "5\n", [("P", 4), ("b", 5), ("Q", 7)], [0, -1, 2])

    def test_of_one_cost_the_word(self):
        self.check("b b 0 0 5\n", "5\n", [("b", 5)], [0])
        self.check("b b 0 0 5\nb P 0 0 5\n", "5\n", [("P", 5), ("b", 5)], [0, 1])

    def test_by_what_they_would_cost(self):
        self.check("b b 1 0 5\n", "7\n0 1 4\n", [("b", 7)], [-1])
        self.check("b b 1 0 5\n", "4\n0 0 2\n", [("b", 7)], [0])

    def test_a_longer_word_that_writes_its_sounds(self):
        calls = [words("ab ab 0 0 1\nab X 0 0 2\n"), start("ab")]
        self.assertEqual(offers(*calls), [("ab", 1), ("X", 2)])

    def test_the_other_one_is_shown(self):
        # By itself it's shown, for what stands behind; chosen before, the word would be dearer.
        calls = [words("b b 0 1 5\nc C 2 0 1\n"), joins("7\n1 2 9\n"), start("bc")]
        self.assertEqual(pieces(*calls)[0], (0, 1, -1, 0))
        self.assertEqual(offers(*calls), [("b", 8)])
        self.assertEqual(pieces(*calls, ON, choose(1), BACK, choose(0))[0], (0, 1, 0, 1))


class Numbering(unittest.TestCase):
    def test_choose_has_the_numbers_of_could(self):
        calls = [words("a A 1 0 1\na B 0 0 3\na a 2 0 2\na C 0 0 2\nab D 0 0 9\nb E 0 0 1\n"),
                 joins("6\n0 1 4\n0 2 1\n"), start("ab")]
        told = offers(*calls)
        self.assertEqual(told, [("C", 3), ("a", 4), ("B", 4), ("A", 6)])
        for number, (text, cost) in enumerate(told):
            self.assertEqual(written(*calls, choose(number)), text + "E")
        self.assertEqual(offers(*calls, WIDER), [("D", 9)])
        self.assertEqual(ask(*calls, WIDER, choose(1), choose(0), SHOWN)[-3:], [[-5], [0], [1, 0, 0, 2, 4, 1]])


if __name__ == "__main__":
    unittest.main()
