"""choose: what's settled then, and what's shown."""

import unittest

from tests.helper import BACK, GREATEST, NARROWER, ON, SHOWN, WIDER, ask, choose, joins, last, more, offers, pieces
from tests.helper import start, state, take, where, words, written

# In the words' order: A 0, P 1, B 2, D 3, E 4.
DEAR = [words("a A 0 0 1\na P 0 0 5\naa B 0 0 9\nb D 0 0 1\nbb E 0 0 9\n"), joins("20\n")]


class Choose(unittest.TestCase):
    def test_it_is_shown_as_chosen(self):
        calls = [*DEAR, start("aab")]
        self.assertEqual(last(*calls, choose(1)), [0])
        self.assertEqual(pieces(*calls, choose(1)), [(0, 1, 1, 1), (1, 1, 0, 0), (2, 1, 3, 0)])
        self.assertEqual(pieces(*calls, ON, choose(2)), [(0, 1, 0, 0), (1, 1, -1, 1), (2, 1, 3, 0)])

    def test_what_is_shown_already_may_be_chosen(self):
        self.assertEqual(pieces(*DEAR, start("ab"), choose(0)), [(0, 1, 0, 1), (1, 1, 3, 0)])

    def test_what_was_chosen_there_is_left_out(self):
        calls = [*DEAR, start("ab"), choose(1)]
        self.assertEqual(pieces(*calls, choose(2)), [(0, 1, -1, 1), (1, 1, 3, 0)])
        self.assertEqual(pieces(*calls, choose(2), choose(0)), [(0, 1, 0, 1), (1, 1, 3, 0)])

    def test_what_is_settled_behind_stays(self):
        calls = [*DEAR, start("aabb"), ON, choose(1), ON, WIDER]
        self.assertEqual(written(*calls), "APE")
        self.assertEqual(pieces(*calls, BACK, BACK, choose(2)), [(0, 1, -1, 1), (1, 1, 1, 1), (2, 2, 4, 0)])
        self.assertEqual(pieces(*calls, BACK, choose(0)), [(0, 1, 0, 0), (1, 1, 0, 1), (2, 2, 4, 0)])

    def test_what_is_settled_before_stays(self):
        calls = [*DEAR, start("bbaa"), WIDER, ON, choose(1), ON, choose(2)]
        self.assertEqual(pieces(*calls), [(0, 2, 4, 0), (2, 1, 1, 1), (3, 1, -1, 1)])

    def test_a_width_there_stays(self):
        calls = [words("aa B 0 0 9\naa C 0 0 12\na A 0 0 1\n"), start("aaa"), WIDER, choose(1)]
        self.assertEqual(pieces(*calls), [(0, 2, 2, 1), (2, 1, 0, 0)])
        self.assertEqual(offers(*calls), [("B", 10), ("C", 13)])

    def test_the_rest_is_weighed_anew(self):
        # Behind Q "b" is dear as B, behind P as C.
        calls = [words("a P 0 1 1\na Q 0 2 2\nb B 3 0 1\nb C 4 0 2\n"), joins("99\n2 3 9\n1 4 9\n"), start("ab")]
        self.assertEqual(written(*calls), "PB")
        self.assertEqual(written(*calls, choose(1)), "QC")
        self.assertEqual(written(*calls, choose(1), choose(0)), "PB")

    def test_a_chosen_piece_keeps_its_width(self):
        # More sounds would make a longer piece here, of which nothing may come to stand over the chosen one.
        calls = [words("a A 0 0 1\nab W 0 0 0\nabc X 0 0 0\nb B 0 0 1\n"), start("a"), choose(0)]
        self.assertEqual(written(*calls, more("b")), "AB")
        self.assertEqual(pieces(*calls, more("bc")), [(0, 1, 0, 1), (1, 1, 3, 0), (2, 1, -1, 0)])

    def test_where_one_is_stays(self):
        self.assertEqual([where(*DEAR, start("aab"), *[ON] * steps, choose(1)) for steps in range(3)], [0, 1, 2])

    def test_from_the_middle_of_a_piece(self):
        calls = [words("a A 0 0 1\nabc X 0 0 0\nabc Y 0 0 1\nb B 0 0 1\n"), start("ab"), ON, more("c"), choose(1)]
        self.assertEqual(last(*calls, SHOWN), [1, 0, 0, 3, 2, 1])

    def test_a_choice_that_is_not_the_first_at_its_cost(self):
        calls = [words("a P 0 0 1\na Q 0 0 1\n"), joins("1\n"), start("aa")]
        self.assertEqual([written(*calls, choose(number)) for number in range(3)], ["PP", "QP", "aP"])

    def test_after_a_taking(self):
        calls = [words("a A 0 1 1\nb B 2 0 1\nb C 3 0 4\n"), joins("99\n1 2 10\n"), start("abb"), take(1)]
        self.assertEqual((written(*calls), written(*calls, choose(0)), written(*calls, choose(1))), ("CB", "CB", "BB"))

    def test_there_are_not_so_many(self):
        calls = [*DEAR, start("aab"), NARROWER]
        self.assertEqual(ask(*calls, choose(3), choose(GREATEST))[-2:], [[-5], [-5]])
        calls = [*DEAR, start("aab"), choose(1), ON]
        before = state(*calls)
        self.assertEqual(state(*calls, choose(3), choose(GREATEST)), before)


if __name__ == "__main__":
    unittest.main()
