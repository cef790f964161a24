"""take: what's told, and what's left of the turn."""

import unittest

from tests.helper import BACK, GREATEST, NARROWER, ON, SHOWN, TEXT, WIDER, ask, choose, joins, last, more, move, offers
from tests.helper import pieces, start, state, take, text_in, where, width, words, written

# In the words' order: A 0, P 1, B 2, D 3, E 4.
DEAR = [words("a A 0 0 1\na P 0 0 5\naa B 0 0 9\nb D 0 0 1\nbb E 0 0 9\n"), joins("20\n")]
CHEAP = [words("a A 0 0 5\na P 0 0 6\naa B 0 0 1\nb D 0 0 5\nbb E 0 0 1\n"), joins("20\n")]


class Told(unittest.TestCase):
    def test_the_text_of_the_first_pieces(self):
        calls = [words("a \U00010000A 0 0 1\nbc \u3042 0 0 1\n"), start("abcx")]
        self.assertEqual(last(*calls, take(1)), [2, 0x10000, 65])
        self.assertEqual(last(*calls, take(2)), [3, 0x10000, 65, 0x3042])
        self.assertEqual(last(*calls, take(3)), [4, 0x10000, 65, 0x3042, 120])
        self.assertEqual(ask(*calls, take(1), take(1), take(1))[-3:], [[2, 0x10000, 65], [1, 0x3042], [1, 120]])

    def test_what_was_chosen_is_told(self):
        self.assertEqual(text_in(last(*DEAR, start("aab"), choose(1), ON, choose(2), take(2))), "Pa")

    def test_0_and_more_than_there_are_pieces(self):
        calls = [*DEAR, start("aabb"), WIDER]
        self.assertEqual(ask(*calls, take(0), take(4), take(GREATEST))[-3:], [[-5]] * 3)
        before = state(*calls)
        self.assertEqual(state(*calls, take(0), take(4), take(GREATEST)), before)
        self.assertEqual(text_in(last(*calls, take(0), take(4), take(3))), "BDD")

    def test_taken_whole_the_turn_is_over(self):
        calls = [*DEAR, start("aab"), take(3)]
        behind = [SHOWN, TEXT, [8, 0], move(0), width(0), choose(0), take(1), take(0), more("a")]
        self.assertEqual(ask(*calls, *behind)[-9:], [[-4]] * 9)
        self.assertEqual(last(*DEAR, start("aab"), take(1), take(1), take(1), TEXT), [-4])
        self.assertEqual(written(*calls, start("ba")), "DA")

    def test_pieces_not_sounds(self):
        calls = [*CHEAP, start("aabb")]
        self.assertEqual(ask(*calls, take(3), take(2))[-2:], [[-5], [2, 66, 69]])

    def test_24_sounds(self):
        told = ask(start("abcdefghijklmnopqrstuvwx"), *[take(1)] * 24, TEXT)
        self.assertEqual(told[1:], [[1, 97 + number] for number in range(24)] + [[-4]])


class SortBefore(unittest.TestCase):
    """The rest is weighed behind the last taken piece's right sort (Wrong 1)."""

    LEXICON = words("a A 5 1 1\na P 5 2 1\nb B 1 0 1\nb C 2 0 3\nc X 4 6 1\nd D 6 0 1\nd E 7 0 3\n")
    TABLE = joins("99\n1 1 10\n2 2 10\n6 6 10\n5 2 10\n")

    def test_the_right_sort(self):
        calls = [self.LEXICON, self.TABLE]
        self.assertEqual(written(*calls, start("b")), "B")
        self.assertEqual(written(*calls, start("ab"), choose(1)), "AC")
        self.assertEqual(written(*calls, start("ab"), choose(1), take(1)), "C")
        self.assertEqual(offers(*calls, start("ab"), choose(1), take(1)), [("C", 3), ("B", 11), ("b", 99)])
        self.assertEqual(written(*calls, start("ab"), choose(0), take(1)), "B")
        self.assertEqual(offers(*calls, start("ab"), choose(0), take(1)), [("B", 1), ("C", 13), ("b", 99)])

    def test_of_the_last_one_taken(self):
        calls = [self.LEXICON, self.TABLE, start("acd")]
        self.assertEqual(offers(*calls, take(2)), [("E", 3), ("D", 11), ("d", 99)])
        self.assertEqual(offers(*calls, take(1), take(1)), [("E", 3), ("D", 11), ("d", 99)])
        self.assertEqual(offers(*calls, take(1), ON), [("E", 4), ("D", 12), ("d", 100)])

    def test_over_two_takings(self):
        calls = [self.LEXICON, self.TABLE, start("cab"), ON, choose(1)]
        self.assertEqual(written(*calls), "XAC")
        self.assertEqual(offers(*calls, take(1), take(1)), [("C", 3), ("B", 11), ("b", 99)])
        self.assertEqual(offers(*calls, take(2)), [("C", 3), ("B", 11), ("b", 99)])

    def test_by_itself_it_is_sort_0(self):
        calls = [self.LEXICON, joins("99\n0 1 10\n1 2 10\n"), start("axb"), choose(0), take(1)]
        self.assertEqual(offers(*calls, take(1)), [("C", 3), ("B", 11), ("b", 99)])

    def test_it_stays_for_what_is_done_then(self):
        calls = [self.LEXICON, self.TABLE, start("ab"), choose(1), take(1)]
        self.assertEqual(offers(*calls, more("c")), [("C", 4), ("B", 12), ("b", 100)])
        self.assertEqual(offers(*calls, choose(1), choose(0)), [("C", 3), ("B", 11), ("b", 99)])
        # A new turn begins behind sort 0 again.
        self.assertEqual(offers(*calls, start("b")), [("B", 1), ("C", 3), ("b", 99)])
        self.assertEqual(offers(*calls, take(1), start("b")), [("B", 1), ("C", 3), ("b", 99)])


class SettledOfTheRest(unittest.TestCase):
    """Cuts and choices behind move along (Wrong 7)."""

    def test_a_cut_behind_moves_along(self):
        calls = [*CHEAP, start("bbaa")]
        self.assertEqual(written(*calls), "EB")
        self.assertEqual(written(*calls, ON, NARROWER), "EAA")
        self.assertEqual(written(*calls, ON, NARROWER, take(1)), "AA")

    def test_none_between_moves_along(self):
        calls = [*DEAR, start("baa"), ON, WIDER]
        self.assertEqual(written(*calls), "DB")
        self.assertEqual(written(*calls, take(1)), "B")

    def test_a_cut_does_not_stay_where_it_was(self):
        # The cut behind the first "a" must not part the others.
        calls = [*CHEAP, start("aaaaa"), NARROWER]
        self.assertEqual(written(*calls), "ABB")
        self.assertEqual(written(*calls, take(1)), "BB")
        calls = [*CHEAP, start("baaaa"), ON, NARROWER]
        self.assertEqual(written(*calls), "DABA")
        self.assertEqual(written(*calls, take(2)), "BA")
        self.assertEqual(written(*calls, take(1), take(1)), "BA")

    def test_a_choice_behind_moves_along(self):
        calls = [*DEAR, start("aba"), ON, ON, choose(1), BACK, choose(1)]
        self.assertEqual(pieces(*calls), [(0, 1, 0, 0), (1, 1, -1, 1), (2, 1, 1, 1)])
        self.assertEqual(pieces(*calls, take(1)), [(0, 1, -1, 1), (1, 1, 1, 1)])
        self.assertEqual(pieces(*calls, take(2)), [(0, 1, 1, 1)])
        self.assertEqual(pieces(*calls, take(1), take(1)), [(0, 1, 1, 1)])

    def test_what_is_settled_of_the_taken_goes(self):
        calls = [*DEAR, start("aaa"), choose(1), ON, choose(2)]
        self.assertEqual(pieces(*calls, take(2)), [(0, 1, 0, 0)])
        self.assertEqual(pieces(*calls, take(1)), [(0, 1, -1, 1), (1, 1, 0, 0)])
        # With more sounds it's weighed like one of which nothing is settled.
        self.assertEqual(written(*CHEAP, start("aab"), NARROWER, choose(1), take(2), more("b")), "E")

    def test_the_rest_is_shown_as_it_was(self):
        calls = [*CHEAP, start("aabbaab"), ON, NARROWER, ON, choose(1)]
        self.assertEqual(written(*calls), "BDbBD")
        self.assertEqual(pieces(*calls, take(2)), [(0, 1, -1, 1), (1, 2, 2, 0), (3, 1, 3, 0)])


class Place(unittest.TestCase):
    def test_so_many_sounds_less_0_at_least(self):
        calls = [*DEAR, start("aabb")]
        for steps in range(4):
            for count in range(1, 4):
                self.assertEqual(where(*calls, *[ON] * steps, take(count)), max(steps - count, 0), (steps, count))

    def test_sounds_not_pieces(self):
        # One is at the fourth piece, behind six sounds: two pieces less are four sounds less.
        calls = [*CHEAP, start("aabbaab"), ON, ON, ON]
        self.assertEqual((written(*calls), where(*calls)), ("BEBD", 3))
        self.assertEqual((written(*calls, take(2)), where(*calls, take(2))), ("BD", 1))
        self.assertEqual((written(*calls, take(1)), where(*calls, take(1))), ("EBD", 2))

    def test_the_place_goes_with_its_piece(self):
        calls = [words("a A 0 0 1\nab W 0 0 0\nb B 0 0 0\nc C 0 0 0\nbcd Z 0 0 0\n"), start("aabc"), ON, ON]
        self.assertEqual((written(*calls), where(*calls)), ("AWC", 2))
        # Of "abcd", left then, A and Z are shown: the place of C lies in Z, that of W in A.
        self.assertEqual((written(*calls, take(1), more("d")), where(*calls, take(1), more("d"))), ("AZ", 1))
        self.assertEqual(where(*calls, BACK, take(1), more("d")), 0)

    def test_what_could_stand_there(self):
        calls = [*DEAR, start("ab"), take(1)]
        self.assertEqual(offers(*calls), [("D", 1), ("b", 20)])


if __name__ == "__main__":
    unittest.main()
