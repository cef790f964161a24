"""The calls text, could, move, width, choose, take: what's refused, in which order, and that nothing changes then."""

import unittest

from tests.helper import BACK, BEGIN, GREATEST, NARROWER, ON, SHOWN, TEXT, WIDER, ask, choose, could, joins, last, more
from tests.helper import move, pieces, start, state, take, width, words, written

# In the words' order: A 0, P 1, B 2, D 3, E 4.
LEXICON = [words("a A 0 0 1\na P 0 0 5\naa B 0 0 9\nb D 0 0 1\nbb E 0 0 9\n"), joins("20\n")]
ABOVE_1 = (2, 3, 255, 65536, GREATEST)


class Order(unittest.TestCase):
    NO_TURN = ([], [BEGIN], [start("a"), BEGIN], [start("a"), words("")], [start("a"), joins("1\n")],
               [start("a"), take(1)], [start("")], [start("ab"), take(1), take(1)])

    def test_1_before_4(self):
        for before in self.NO_TURN:
            for number in ABOVE_1:
                self.assertEqual(ask(*before, move(number), width(number))[-2:], [[-1], [-1]])

    def test_4_before_all_behind_it(self):
        calls = [SHOWN, TEXT, ON, BACK, WIDER, NARROWER]
        for number in (0, 1, 2, GREATEST):
            calls += [could(number), choose(number), take(number)]
        for before in self.NO_TURN:
            self.assertEqual(ask(*before, *calls)[len(before):], [[-4]] * len(calls))

    def test_1_with_a_turn(self):
        for number in ABOVE_1:
            self.assertEqual(ask(start("ab"), move(number), width(number))[1:], [[-1], [-1]])
            # Also where moving on or back, wider or narrower would be refused.
            self.assertEqual(ask(start("a"), move(number), width(number))[1:], [[-1], [-1]])

    def test_more_is_refused_in_the_same_order(self):
        self.assertEqual(ask(more(""), more("a"), start("a"), take(1), more([0xD800]), more("")),
                         [[-1], [-4], [0], [1, 97], [-4], [-1]])


class There(unittest.TestCase):
    """-5: there's none, or there aren't so many."""

    def test_could_and_choose(self):
        calls = [*LEXICON, start("aab")]
        for number in (3, 4, 5, 128, 129, 65536, GREATEST):
            self.assertEqual(ask(*calls, could(number), choose(number))[-2:], [[-5], [-5]])
        self.assertEqual(ask(*calls, could(2), choose(2))[-2:], [[1, 22, 97], [0]])
        self.assertEqual(ask(*calls, WIDER, could(1), choose(1), choose(0))[-3:], [[-5], [-5], [0]])

    def test_take(self):
        calls = [*LEXICON, start("aab")]
        for number in (0, 4, 5, 65536, GREATEST):
            self.assertEqual(last(*calls, take(number)), [-5])
        self.assertEqual(last(*calls, take(3)), [3, 65, 65, 68])
        self.assertEqual(ask(*calls, WIDER, take(3), take(2))[-2:], [[-5], [2, 66, 68]])

    def test_move(self):
        calls = [*LEXICON, start("aab")]
        self.assertEqual(ask(*calls, BACK, ON, ON, ON)[-4:], [[-5], [0], [0], [-5]])
        self.assertEqual(ask(*calls, ON, ON, BACK, BACK, BACK)[-3:], [[0], [0], [-5]])

    def test_width(self):
        calls = [*LEXICON, start("aab")]
        self.assertEqual(ask(*calls, NARROWER, WIDER, WIDER, NARROWER)[-4:], [[-5], [0], [-5], [0]])
        self.assertEqual(ask(*calls, ON, WIDER, NARROWER)[-2:], [[-5], [-5]])


class NothingChanges(unittest.TestCase):
    """F6, on turns of which several things are settled."""

    TURNS = (
        [start("aab")],
        [start("aab"), WIDER],
        [start("aabb"), ON, choose(1), ON, WIDER],
        [start("aabb"), choose(1), ON, choose(2), ON, ON],
        [start("baab"), ON, WIDER, take(1)],
        [start("ab"), ON, choose(0), more("b")],
    )
    ALWAYS = [move(2), move(GREATEST), width(2), width(GREATEST), could(9), could(GREATEST), choose(9),
              choose(GREATEST), take(0), take(9), take(GREATEST)]
    BEHIND = ([], [more("b")], [take(1)], [ON], [BACK], [WIDER], [NARROWER], [choose(1)], [ON, choose(1), BACK, WIDER])

    def refused(self, calls):
        perhaps = [ON, BACK, WIDER, NARROWER]
        return self.ALWAYS + [call for call in perhaps if last(*calls, call) == [-5]]

    def test_shown_text_and_could_answer_alike(self):
        for turn in self.TURNS:
            calls = [*LEXICON, *turn]
            before = state(*calls)
            for call in self.refused(calls):
                self.assertEqual(len(last(*calls, call)), 1)
                self.assertIn(last(*calls, call)[0], (-1, -5))
                self.assertEqual(state(*calls, call), before, (turn, call))

    def test_what_is_done_then_too(self):
        for turn in self.TURNS:
            calls = [*LEXICON, *turn]
            for behind in self.BEHIND:
                expected = last(*calls, *behind, SHOWN)
                for call in self.refused(calls):
                    self.assertEqual(last(*calls, call, *behind, SHOWN), expected, (turn, call, behind))

    def test_a_refused_width_or_move_keeps_the_place(self):
        # The place is behind "a" when X comes to stand over it; with "d" behind, it's A and Y again.
        calls = [words("a A 0 0 1\nabc X 0 0 0\nb B 0 0 1\nbcd Y 0 0 0\n"), start("ab"), ON, more("c")]
        self.assertEqual(written(*calls), "X")
        for call in (WIDER, ON, BACK, could(0), could(1), choose(1), take(2), TEXT, SHOWN):
            self.assertEqual(last(*calls, call, more("d"), SHOWN)[:2], [2, 1])

    def test_with_no_turn(self):
        for call in (TEXT, could(0), ON, WIDER, choose(0), take(1), move(2), width(2), more("a"), more("")):
            self.assertEqual(ask(*LEXICON, call, SHOWN)[-1], [-4])
            self.assertEqual(pieces(*LEXICON, call, start("aab")), pieces(*LEXICON, start("aab")))


if __name__ == "__main__":
    unittest.main()
