"""The whole of the document's "A run.", call by call."""

import unittest

from tests.helper import BACK, NARROWER, ON, SHOWN, TEXT, WIDER, ask, choose, could, joins, more, start, take, words

# In the words' order: A 0, B 1, C 2, D 3.
LEXICON = words("a A 1 1 10\naa B 2 2 25\naa C 1 1 25\nb D 3 3 5\n")
TABLE = joins("40\n0 2 3\n1 1 20\n2 3 7\n")
A, B, C, D, SMALL_A = [65], [66], [67], [68], [97]


class Run(unittest.TestCase):
    def check(self, steps):
        told = ask(*[call for call, answer in steps])
        for number, (call, answer) in enumerate(steps):
            self.assertEqual(told[number], answer, f"step {number}: {call}")

    def test_the_first_turn(self):
        self.check([
            (LEXICON, [4]),
            (TABLE, [3]),
            (start("aab"), [0]),
            (SHOWN, [2, 0] + [0, 2, 2, 0] + [2, 1, 3, 0]),
            (TEXT, [2] + C + D),
            (could(0), [1, 30] + C),
            (could(1), [1, 40] + B),
            (could(2), [-5]),
            (NARROWER, [0]),
            (SHOWN, [3, 0] + [0, 1, 0, 0] + [1, 1, 0, 0] + [2, 1, 3, 0]),
            (TEXT, [3] + A + A + D),
            (could(0), [1, 45] + A),
            (could(1), [1, 55] + SMALL_A),
            (could(2), [-5]),
            (choose(1), [0]),
            (SHOWN, [3, 0] + [0, 1, -1, 1] + [1, 1, 0, 0] + [2, 1, 3, 0]),
            (TEXT, [3] + SMALL_A + A + D),
            (ON, [0]),
            (SHOWN, [3, 1] + [0, 1, -1, 1] + [1, 1, 0, 0] + [2, 1, 3, 0]),
            (could(0), [1, 55] + A),
            (could(1), [1, 85] + SMALL_A),
            (could(2), [-5]),
            (take(1), [1] + SMALL_A),
            (SHOWN, [2, 0] + [0, 1, 0, 0] + [1, 1, 3, 0]),
            (TEXT, [2] + A + D),
            (could(0), [1, 15] + A),
            (could(1), [1, 45] + SMALL_A),
            (could(2), [-5]),
            (WIDER, [-5]),
            (more("b"), [0]),
            (SHOWN, [3, 0] + [0, 1, 0, 0] + [1, 1, 3, 0] + [2, 1, 3, 0]),
            (TEXT, [3] + A + D + D),
            (could(0), [1, 20] + A),
            (take(3), [3] + A + D + D),
            (TEXT, [-4]),
            (SHOWN, [-4]),
        ])

    def test_another_turn(self):
        self.check([
            (LEXICON, [4]),
            (TABLE, [3]),
            (start("aab"), [0]),
            (NARROWER, [0]),
            (TEXT, [3] + A + A + D),
            (ON, [0]),
            (could(1), [1, 55] + SMALL_A),
            (choose(1), [0]),
            (TEXT, [3] + A + SMALL_A + D),
            (SHOWN, [3, 1] + [0, 1, 0, 0] + [1, 1, -1, 1] + [2, 1, 3, 0]),
            (BACK, [0]),
            (could(1), [1, 85] + SMALL_A),
            (choose(1), [0]),
            (TEXT, [3] + SMALL_A + SMALL_A + D),
            (SHOWN, [3, 0] + [0, 1, -1, 1] + [1, 1, -1, 1] + [2, 1, 3, 0]),
            (NARROWER, [-5]),
            (TEXT, [3] + SMALL_A + SMALL_A + D),
            (WIDER, [0]),
            (SHOWN, [2, 0] + [0, 2, 2, 0] + [2, 1, 3, 0]),
            (TEXT, [2] + C + D),
            (could(0), [1, 30] + C),
            (NARROWER, [0]),
            (TEXT, [3] + A + A + D),
        ])

    def test_both_on_one_object(self):
        first = [LEXICON, TABLE, start("aab"), NARROWER, choose(1), ON, take(1), more("b"), take(3), TEXT]
        second = [start("aab"), NARROWER, ON, choose(1), BACK, choose(1), NARROWER, WIDER, TEXT]
        self.assertEqual(ask(*first, *second)[-10:], [[-4]] + [[0]] * 6 + [[-5], [0], [2] + C + D])


if __name__ == "__main__":
    unittest.main()
