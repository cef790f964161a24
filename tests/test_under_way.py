"""more, words and joins while a turn is under way of which something is settled."""

import unittest

from tests.helper import BACK, NARROWER, ON, SHOWN, TEXT, WIDER, ask, choose, could, joins, last, more, move, offers
from tests.helper import pieces, start, state, take, where, width, words, written

# In the words' order: A 0, P 1, W 2, X 3, B 4, Y 5, C 6. X and Y cost nothing: they'd always be shown.
LEXICON = [words("a A 0 0 1\na P 0 0 2\nab W 0 0 9\nabc X 0 0 0\nb B 0 0 1\nbc Y 0 0 0\nc C 0 0 1\n"), joins("20\n")]


class More(unittest.TestCase):
    """Nothing is unsettled (Wrong 9)."""

    def test_nothing_settled_all_is_weighed_anew(self):
        self.assertEqual(written(*LEXICON, start("ab")), "AB")
        self.assertEqual(written(*LEXICON, start("ab"), more("c")), "X")

    def test_a_choice_before_the_old_end_stays(self):
        calls = [*LEXICON, start("ab"), choose(1), more("c")]
        self.assertEqual(pieces(*calls), [(0, 1, 1, 1), (1, 2, 5, 0)])

    def test_a_cut_by_choose_at_the_old_end(self):
        calls = [*LEXICON, start("ab"), ON, choose(0), more("c")]
        self.assertEqual(pieces(*calls), [(0, 1, 0, 0), (1, 1, 4, 1), (2, 1, 6, 0)])
        self.assertEqual(where(*calls), 1)
        self.assertEqual(written(*calls, more("abc")), "ABCX")

    def test_a_cut_by_wider_at_the_old_end(self):
        calls = [*LEXICON, start("ab"), WIDER, more("c")]
        self.assertEqual(pieces(*calls), [(0, 2, 2, 0), (2, 1, 6, 0)])
        # It may be made wider then like any other.
        self.assertEqual(written(*calls, WIDER), "X")
        self.assertEqual(written(*calls, ON, NARROWER, more("abc")), "WCX")

    def test_a_cut_by_narrower_before_the_old_end(self):
        calls = [*LEXICON, start("abc"), NARROWER]
        self.assertEqual(written(*calls), "WC")
        # Behind it nothing is settled: of "c" and what's added all is weighed.
        calls = [words("a A 0 0 1\nab W 0 0 0\nb B 0 0 1\nbc Y 0 0 0\n"), joins("20\n"), start("ab"), NARROWER]
        self.assertEqual((written(*calls), written(*calls, more("c"))), ("AB", "AY"))

    def test_no_cut_at_the_old_end_where_none_was_made(self):
        calls = [*LEXICON, start("aab"), choose(1), more("c")]
        self.assertEqual(written(*calls), "PX")

    def test_a_cut_at_the_end_counts_nothing_there(self):
        calls = [*LEXICON, start("ab"), WIDER]
        self.assertEqual(offers(*calls), [("W", 9)])
        self.assertEqual(written(*calls, NARROWER), "AB")
        # Narrower there: what was cut behind is gone, also when sounds are added.
        self.assertEqual(written(*calls, NARROWER, more("c")), "AY")

    def test_choices_and_cuts_before_and_at_the_end(self):
        calls = [*LEXICON, start("aab"), choose(2), ON, choose(1), ON, choose(1), more("c"), more("ab")]
        self.assertEqual(pieces(*calls), [(0, 1, -1, 1), (1, 1, 1, 1), (2, 1, -1, 1), (3, 1, 6, 0), (4, 1, 0, 0),
                                          (5, 1, 4, 0)])

    def test_with_a_taking_before(self):
        calls = [*LEXICON, start("cab"), ON, WIDER, take(1), more("c")]
        self.assertEqual(pieces(*calls), [(0, 2, 2, 0), (2, 1, 6, 0)])
        calls = [*LEXICON, start("cab"), ON, ON, choose(0), take(1), more("c")]
        self.assertEqual(pieces(*calls), [(0, 1, 0, 0), (1, 1, 4, 1), (2, 1, 6, 0)])
        self.assertEqual(where(*calls), 1)
        calls = [*LEXICON, start("cab"), ON, ON, choose(0), take(2), more("c")]
        self.assertEqual(pieces(*calls), [(0, 1, 4, 1), (1, 1, 6, 0)])
        calls = [*LEXICON, start("cab"), ON, choose(1), take(1), more("c")]
        self.assertEqual(pieces(*calls), [(0, 1, 1, 1), (1, 2, 5, 0)])

    def test_a_taking_behind_it(self):
        calls = [*LEXICON, start("cab"), ON, WIDER, more("c"), take(1)]
        self.assertEqual(pieces(*calls), [(0, 2, 2, 0), (2, 1, 6, 0)])

    def test_the_sort_before_stays(self):
        calls = [words("a A 0 1 1\nb B 2 0 1\nb C 3 0 4\n"), joins("99\n1 2 10\n"), start("ab"), take(1), more("b")]
        self.assertEqual(written(*calls), "CB")

    def test_the_place_stays(self):
        self.assertEqual(where(*LEXICON, start("ccc"), ON, ON, more("c")), 2)
        self.assertEqual(where(*LEXICON, start("cab"), ON, ON, more("c")), 1)
        self.assertEqual(where(*LEXICON, start("cab"), ON, ON, more("c"), more("c")), 1)

    def test_taken_sounds_make_room(self):
        calls = [*LEXICON, start("c" * 10)]
        self.assertEqual(ask(*calls, more("c"), take(1), more("c"), more("c"))[-4:], [[-6], [1, 67], [0], [-6]])
        self.assertEqual(ask(start("x" * 24), more("x"), take(2), more("xx"), more("x"))[1:],
                         [[-6], [2, 120, 120], [0], [-6]])

    def test_whatever_is_settled_all_ways_count(self):
        calls = [*LEXICON, start("c" * 10), choose(0), ON, choose(1)]
        self.assertEqual(last(*calls, more("c")), [-6])

    def test_refused_nothing_is_unsettled(self):
        calls = [*LEXICON, start("cab"), choose(1), ON, WIDER]
        before = state(*calls)
        for refused in ("", "x" * 25, "x" * 24, [0xD800], "a" * 20):
            self.assertLess(last(*calls, more(refused))[0], 0)
            self.assertEqual(state(*calls, more(refused)), before)
            self.assertEqual(written(*calls, more(refused), more("c")), "cWC")


class Over(unittest.TestCase):
    """words and joins end the turn; a refused one leaves it as it was."""

    BEHIND = [more("a"), SHOWN, TEXT, could(0), move(0), move(1), width(0), width(1), choose(0), take(1)]

    def test_over_till_start(self):
        calls = [*LEXICON, start("cab"), choose(1), ON, WIDER]
        for told, answer in ((words("a Q 0 0 1\n"), [1]), (words(""), [0]), (joins("3\n0 0 1\n"), [1]),
                             (joins("0\n"), [0])):
            self.assertEqual(ask(*calls, told, *self.BEHIND)[len(calls):], [answer] + [[-4]] * 10)
            self.assertEqual(ask(*calls, told, *self.BEHIND, start("x"), TEXT)[-2:], [[0], [1, 120]])

    def test_nothing_of_it_is_left(self):
        calls = [*LEXICON, start("cab"), choose(1), ON, WIDER, ON, take(1)]
        for told in (LEXICON[0], LEXICON[1]):
            self.assertEqual(state(*calls, told, start("cab")), state(*LEXICON, start("cab")))
            self.assertEqual(last(*calls, told, start("cab"), more("c"), SHOWN),
                             last(*LEXICON, start("cab"), more("c"), SHOWN))

    def test_start_begins_anew(self):
        calls = [*LEXICON, start("cab"), choose(1), ON, WIDER, take(1)]
        self.assertEqual(state(*calls, start("cab")), state(*LEXICON, start("cab")))
        self.assertEqual(last(*calls, start("ab"), more("c"), SHOWN), [1, 0, 0, 3, 3, 0])

    def test_a_refused_one_leaves_it(self):
        calls = [*LEXICON, start("cab"), choose(1), ON, WIDER]
        before = state(*calls)
        for told in (words("a"), words("a A 0 0 1\n\n"), joins(""), joins("1\n0 0 0\n0 0 0\n"), start(""),
                     start([0x110000]), start("c" * 11)):
            self.assertLess(last(*calls, told)[0], 0)
            self.assertEqual(state(*calls, told), before)
            self.assertEqual(written(*calls, told, more("c"), BACK), "cWC")

    def test_the_new_words_and_joins_count(self):
        calls = [*LEXICON, start("ab"), choose(1)]
        self.assertEqual(offers(*calls, words("a Q 1 0 1\na R 0 0 2\n"), start("a")), [("Q", 1), ("R", 2), ("a", 20)])
        self.assertEqual(offers(*calls, joins("7\n0 0 5\n"), start("a")), [("A", 11), ("P", 12), ("a", 17)])


if __name__ == "__main__":
    unittest.main()
