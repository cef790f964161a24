"""move and text: where one is, and what's shown, written."""

import unittest

from tests.helper import BACK, ON, SHOWN, TEXT, ask, joins, last, more, pieces, start, where, words, written

LEXICON = words("ab W 0 0 3\na A 0 0 1\nc C 0 0 1\nbcd Z 0 0 0\n")


class Move(unittest.TestCase):
    def test_on_and_back(self):
        steps = [ON, SHOWN, ON, SHOWN, BACK, SHOWN, BACK, SHOWN]
        told = ask(start("abc"), *steps)[1:]
        self.assertEqual(told[::2], [[0]] * 4)
        self.assertEqual([answer[1] for answer in told[1::2]], [1, 2, 1, 0])

    def test_back_at_the_first_and_on_at_the_last(self):
        self.assertEqual(ask(start("ab"), BACK, ON, ON, ON, BACK, BACK)[1:], [[-5], [0], [-5], [-5], [0], [-5]])
        self.assertEqual(ask(start("a"), BACK, ON)[1:], [[-5], [-5]])
        self.assertEqual(where(start("ab"), ON, ON), 1)
        self.assertEqual(where(start("ab"), ON, ON, BACK, BACK), 0)

    def test_piece_by_piece_not_sound_by_sound(self):
        calls = [LEXICON, start("abcab")]
        self.assertEqual([size for place, size, number, chosen in pieces(*calls)], [2, 1, 2])
        self.assertEqual([where(*calls, *[ON] * steps) for steps in range(4)], [0, 1, 2, 2])
        self.assertEqual([where(*calls, ON, ON, *[BACK] * steps) for steps in range(4)], [2, 1, 0, 0])

    def test_to_the_first_place_of_the_piece(self):
        # With "d" behind it's A and Z: the first place of W lies in A, the second one in Z.
        calls = [LEXICON, start("abc"), ON]
        self.assertEqual(written(*calls), "WC")
        self.assertEqual(written(*calls, more("d")), "AZ")
        self.assertEqual(where(*calls, more("d")), 1)
        self.assertEqual(where(*calls, BACK, more("d")), 0)

    def test_nothing_is_settled_by_it(self):
        calls = [LEXICON, start("abc"), ON, BACK, ON]
        self.assertEqual(pieces(*calls), [(0, 2, 1, 0), (2, 1, 3, 0)])
        self.assertEqual(pieces(*calls, more("d")), [(0, 1, 0, 0), (1, 3, 2, 0)])

    def test_from_the_middle_of_a_piece(self):
        # The place is behind "a" when W comes to stand over it.
        calls = [words("a A 0 0 1\nb B 0 0 1\nc C 0 0 1\nbcd W 0 0 0\ne E 0 0 0\n"), start("abc"), ON, ON, more("de")]
        self.assertEqual((written(*calls), where(*calls)), ("AWE", 1))
        self.assertEqual((where(*calls, ON), where(*calls, BACK)), (2, 0))


class Text(unittest.TestCase):
    def test_how_many_characters_and_they(self):
        lexicon = words("a \U00010000AB 0 0 1\nbc \u3042 0 0 1\n")
        self.assertEqual(last(lexicon, start("abcx"), TEXT), [5, 0x10000, 65, 66, 0x3042, 120])

    def test_sounds_by_themselves(self):
        sounds = [0, 0x0A, 0x20, 0x7F, 0xD7FF, 0xE000, 0x10FFFF]
        self.assertEqual(last(start(sounds), TEXT), [7] + sounds)

    def test_the_longest(self):
        lexicon = words("".join([f"{sound} {sound * 32} 0 0 0\n" for sound in "abcdefghij"]))
        text = "".join([sound * 32 for sound in "abcdefghij"])
        self.assertEqual(written(lexicon, start("abcdefghij")), text)

    def test_it_may_be_asked_again(self):
        self.assertEqual(ask(LEXICON, joins("9\n"), start("ac"), TEXT, TEXT, SHOWN, TEXT)[3:],
                         [[2, 65, 67]] * 2 + [[2, 0, 0, 1, 0, 0, 1, 1, 3, 0], [2, 65, 67]])


if __name__ == "__main__":
    unittest.main()
