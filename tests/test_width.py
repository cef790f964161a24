"""width: wider and narrower, and what's settled then."""

import unittest

from tests.helper import BACK, NARROWER, ON, SHOWN, WIDER, ask, choose, joins, last, more, offers, pieces, start, state
from tests.helper import take, where, words, written


class Sizes(unittest.TestCase):
    """Only lengths at which some piece stands there (Wrong 3)."""

    LEXICON = words("a A 0 0 1\nabc X 0 0 9\nabcde Y 0 0 30\nb B 0 0 1\nc C 0 0 1\nd D 0 0 1\ne E 0 0 1\n")

    def texts(self, calls, steps):
        """The text behind each of the steps; None if it's refused."""
        found = []
        for number in range(1, len(steps) + 1):
            done = [*calls, *steps[:number]]
            found.append(None if last(*done) == [-5] else written(*done))
        return found

    def test_the_least_above_and_the_greatest_below(self):
        calls = [self.LEXICON, start("abcde")]
        self.assertEqual(written(*calls), "ABCDE")
        self.assertEqual(self.texts(calls, [WIDER, WIDER, WIDER, NARROWER, NARROWER, NARROWER]),
                         ["XDE", "Y", None, "XDE", "ABCDE", None])

    def test_where_one_is(self):
        calls = [self.LEXICON, start("eabce"), ON]
        self.assertEqual(self.texts(calls, [WIDER, WIDER, NARROWER]), ["EXE", None, "EABCE"])
        self.assertEqual(self.texts([*calls, BACK], [WIDER, NARROWER]), [None, None])

    def test_not_over_the_readings_end(self):
        calls = [self.LEXICON, start("abcd"), WIDER]
        self.assertEqual(written(*calls), "XD")
        self.assertEqual(last(*calls, WIDER), [-5])
        self.assertEqual(written(*calls, more("e"), WIDER), "Y")
        self.assertEqual(last(self.LEXICON, start("ab"), WIDER), [-5])

    def test_not_where_other_sounds_stand(self):
        self.assertEqual(last(self.LEXICON, start("abd"), WIDER), [-5])
        self.assertEqual(self.texts([self.LEXICON, start("abcdd")], [WIDER, WIDER]), ["XDD", None])

    def test_one_sound_by_itself(self):
        calls = [words("xyz W 0 0 1\n"), start("xyz")]
        self.assertEqual(self.texts(calls, [NARROWER, NARROWER, WIDER]), ["xyz", None, "W"])

    def test_whatever_it_costs(self):
        calls = [words("ab W 255 255 65535\n"), joins("0\n0 255 65535\n255 0 65535\n")]
        self.assertEqual(self.texts([*calls, start("ab")], [WIDER, WIDER, NARROWER]), ["W", None, "ab"])

    def test_of_several_of_that_length_the_first_way(self):
        calls = [words("ab P 1 0 1\nab Q 0 0 3\nab R 0 0 3\n"), joins("0\n0 1 9\n"), start("ab"), WIDER]
        self.assertEqual(pieces(*calls), [(0, 2, 1, 0)])
        self.assertEqual(offers(*calls), [("Q", 3), ("R", 3), ("P", 10)])

    def test_from_the_longest_to_the_least(self):
        reading = "abcdefghijklmnopqrstuvwx"
        calls = [words(f"{reading} W 0 0 0\n"), start(reading)]
        self.assertEqual(self.texts(calls, [NARROWER, WIDER]), [reading, "W"])


class Settled(unittest.TestCase):
    """In the words' order: A 0, P 1, B 2, D 3, E 4."""

    DEAR = [words("a A 0 0 1\na P 0 0 5\naa B 0 0 9\nb D 0 0 1\nbb E 0 0 9\n"), joins("20\n")]
    CHEAP = [words("a A 0 0 5\na P 0 0 6\naa B 0 0 1\nb D 0 0 5\nbb E 0 0 1\n"), joins("20\n")]

    def test_a_choice_before_stays(self):
        calls = [*self.DEAR, start("aabb"), choose(1), ON, ON, WIDER]
        self.assertEqual(pieces(*calls), [(0, 1, 1, 1), (1, 1, 0, 0), (2, 2, 4, 0)])
        self.assertEqual(pieces(*calls, NARROWER), [(0, 1, 1, 1), (1, 1, 0, 0), (2, 1, 3, 0), (3, 1, 3, 0)])

    def test_several_choices_before_stay(self):
        calls = [*self.DEAR, start("aabb"), choose(1), ON, choose(2), ON, WIDER]
        self.assertEqual(written(*calls), "PaE")

    def test_a_choice_there_goes(self):
        calls = [*self.DEAR, start("aabb"), choose(1), WIDER]
        self.assertEqual(written(*calls), "BDD")
        self.assertEqual(pieces(*calls, NARROWER), [(0, 1, 0, 0), (1, 1, 0, 0), (2, 1, 3, 0), (3, 1, 3, 0)])

    def test_choices_behind_go(self):
        calls = [*self.DEAR, start("aabb"), ON, choose(1), ON, choose(1), ON, choose(1)]
        self.assertEqual(written(*calls), "APbb")
        back = [BACK, BACK, BACK]
        self.assertEqual(pieces(*calls, *back, WIDER), [(0, 2, 2, 0), (2, 1, 3, 0), (3, 1, 3, 0)])
        self.assertEqual(written(*calls, *back, WIDER, NARROWER), "AADD")
        # One before and one behind: the one before stays, the one there and the one behind go.
        self.assertEqual(written(*calls, BACK, WIDER), "APE")
        self.assertEqual(written(*calls, BACK, WIDER, NARROWER), "APDD")

    def test_a_cut_before_stays(self):
        calls = [*self.CHEAP, start("aabb")]
        self.assertEqual(written(*calls, NARROWER), "AAE")
        self.assertEqual(written(*calls, NARROWER, ON, ON, NARROWER), "AADD")
        self.assertEqual(written(*calls, NARROWER, ON, ON, NARROWER, WIDER), "AAE")

    def test_a_width_before_stays(self):
        calls = [*self.DEAR, start("aabb"), WIDER, ON, WIDER]
        self.assertEqual(written(*calls), "BE")
        self.assertEqual(written(*calls, NARROWER), "BDD")

    def test_cuts_behind_go(self):
        # What would be wider, narrower behind is so no more (Wrong 6).
        calls = [*self.DEAR, start("aabb"), ON, ON, WIDER]
        self.assertEqual(written(*calls), "AAE")
        self.assertEqual(written(*calls, BACK, BACK, WIDER), "BDD")
        calls = [*self.CHEAP, start("aabb"), ON, NARROWER]
        self.assertEqual(written(*calls), "BDD")
        self.assertEqual(written(*calls, BACK, NARROWER), "AAE")

    def test_a_cut_there(self):
        # X over all would be less dear, and ends where the wider piece does.
        calls = [words("a A 0 0 1\nabc X 0 0 4\nb B 0 0 1\nbc Y 0 0 9\nc C 0 0 1\n"), start("abc"), ON, WIDER]
        self.assertEqual(pieces(*calls), [(0, 1, 0, 0), (1, 2, 3, 0)])

    def test_a_cut_behind_it(self):
        calls = [words("a A 0 0 1\nab W 0 0 1\nabc X 0 0 0\nb B 0 0 1\nbc Y 0 0 0\nc C 0 0 1\n"), start("abc")]
        self.assertEqual(written(*calls), "X")
        self.assertEqual(written(*calls, NARROWER), "WC")
        self.assertEqual(written(*calls, NARROWER, NARROWER), "AY")

    def test_the_place_is_the_pieces_first(self):
        # The place is behind "a" when X comes to stand over it.
        calls = [words("a A 0 0 1\nabc X 0 0 0\nb B 0 0 1\nc C 0 0 1\n"), start("ab"), ON, more("c")]
        self.assertEqual((written(*calls), where(*calls)), ("X", 0))
        self.assertEqual((written(*calls, NARROWER), where(*calls, NARROWER)), ("ABC", 0))

    def test_behind_a_taking(self):
        calls = [words("a A 0 1 1\nb B 2 0 1\nb C 3 0 4\nbc W 2 0 3\nbc V 3 0 6\nc D 0 0 1\n"), joins("99\n1 2 10\n")]
        self.assertEqual(written(*calls, start("abc"), take(1)), "CD")
        self.assertEqual(written(*calls, start("abc"), take(1), WIDER), "V")
        self.assertEqual(written(*calls, start("bc"), WIDER), "W")

    def test_refused_nothing_is_settled(self):
        calls = [*self.CHEAP, start("aab"), ON]
        before = state(*calls)
        for step in (WIDER, NARROWER):
            self.assertEqual(ask(*calls, step)[-1], [-5])
            self.assertEqual(state(*calls, step), before)
            self.assertEqual(last(*calls, step, more("b"), SHOWN), last(*calls, more("b"), SHOWN))


if __name__ == "__main__":
    unittest.main()
