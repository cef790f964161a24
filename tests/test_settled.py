"""What's settled, where one is, what's chosen: turns are made by hand here, with whatever a way may keep."""

import itertools
import unittest

from kanaturn.conversion import Conversion
from kanaturn.joins import read_joins
from kanaturn.lexicon import read_lexicon
from kanaturn.settled import Settled
from kanaturn.turn import Turn, is_chosen, shown_pieces, where_one_is
from tests.helper import all_ways, bytes_of, joins_text, keeps, lexicon_text, numbers_of, way_rank

# In the words' order, so that a word's number is its place here.
LEXICON = [("a", "A", 1, 1, 10), ("aa", "B", 2, 2, 25), ("aa", "C", 1, 1, 25), ("aab", "E", 0, 0, 90),
           ("b", "D", 3, 3, 5)]
WORDS = read_lexicon(bytes_of(lexicon_text(LEXICON)))
TABLE = {(0, 2): 3, (1, 1): 20, (2, 3): 7, (3, 3): 1, (2, 1): 4}
JOINS = read_joins(bytes_of(joins_text(40, TABLE)))


def shown(reading, cuts, choices, sort=0):
    turn = Turn(tuple(numbers_of(reading)))
    turn.settled = Settled(dict(cuts), dict(choices))
    turn.sort_before = sort
    return [(piece.size, piece.number) for piece in shown_pieces(WORDS, JOINS, turn)]


def all_of(turn):
    return (turn.settled.cuts, turn.settled.choices, turn.place, turn.sort_before)


class Kept(unittest.TestCase):
    def check(self, reading, cuts, choices):
        ways = [way for way in all_ways(LEXICON, reading) if keeps(way, cuts, choices)]
        if ways:
            first = min(ways, key=lambda way: way_rank(LEXICON, 40, TABLE, way))
            self.assertEqual(shown(reading, cuts, choices), first, (reading, cuts, choices))
        return len(ways)

    def test_cuts(self):
        for reading in ("a", "aab", "aaab", "baab"):
            for kinds in itertools.product((0, 1, 2), repeat=len(reading) - 1):
                self.check(reading, dict(enumerate(kinds, start=1)), {})

    def test_cuts_at_the_end_count_nothing(self):
        for kind in (0, 1, 2):
            self.assertEqual(shown("aab", {3: kind}, {}), [(2, 2), (1, 4)])

    def test_choices(self):
        kept = 0
        for reading in ("aab", "aaab"):
            for first, second in itertools.product(range(-2, 5), repeat=2):
                for place in range(1, len(reading)):
                    choices = {0: first, place: second}
                    kept += self.check(reading, {}, {at: number for at, number in choices.items() if number > -2})
        self.assertGreater(kept, 100)

    def test_cuts_and_choices(self):
        for kinds in itertools.product((0, 1, 2), repeat=3):
            for place, number in itertools.product(range(4), range(-1, 5)):
                self.check("aaab", dict(enumerate(kinds, start=1)), {place: number})

    def test_the_sort_before(self):
        self.assertEqual(shown("aab", {}, {}, 0), [(2, 2), (1, 4)])
        # Behind sort 1 the word C costs 20 more than it does behind 0, B 3 less.
        self.assertEqual(shown("aab", {}, {}, 1), [(2, 1), (1, 4)])


class More(unittest.TestCase):
    """More sounds unsettle nothing."""

    def conversion(self):
        conversion = Conversion()
        conversion.tell_words(bytes_of("a A 0 0 9\nb D 0 0 9\nab E 0 0 1\nbb F 0 0 1\n"))
        conversion.start(numbers_of("aab"))
        return conversion

    def test_all_else_stays(self):
        conversion = self.conversion()
        turn = conversion.turn
        turn.settled, turn.place, turn.sort_before = Settled({1: 1, 2: 1, 3: 1}, {1: -1}), 2, 7
        self.assertEqual(conversion.shown(), [3, 2, 0, 1, 0, 0, 1, 1, -1, 1, 2, 1, 2, 0])
        self.assertEqual(conversion.more(numbers_of("b")), [0])
        self.assertEqual(all_of(turn), ({1: 1, 2: 1, 3: 1}, {1: -1}, 2, 7))
        # The cut at the old end is one like any other now: "bb" may not stand over it.
        self.assertEqual(conversion.shown(), [4, 2, 0, 1, 0, 0, 1, 1, -1, 1, 2, 1, 2, 0, 3, 1, 2, 0])

    def test_no_cut_comes_at_the_old_end(self):
        conversion = self.conversion()
        conversion.turn.settled = Settled({2: 1}, {})
        self.assertEqual(conversion.more(numbers_of("b")), [0])
        self.assertEqual(conversion.shown(), [3, 0, 0, 1, 0, 0, 1, 1, 0, 0, 2, 2, 3, 0])

    def test_start_settles_nothing(self):
        conversion = self.conversion()
        turn = conversion.turn
        turn.settled, turn.place, turn.sort_before = Settled({2: 1}, {1: -1}), 2, 7
        conversion.start(numbers_of("aab"))
        self.assertEqual(all_of(conversion.turn), ({}, {}, 0, 0))

    def test_whatever_is_settled_all_ways_count(self):
        conversion = Conversion()
        conversion.tell_words(bytes_of("a A 0 0 9\n"))
        conversion.start(numbers_of("a" * 10))
        conversion.turn.settled = Settled({}, {0: 0, 1: -1})
        self.assertEqual(conversion.more(numbers_of("a")), [-6])


class Steps(unittest.TestCase):
    """What's settled behind each step, told whole: some of it is never seen in what's answered."""

    def conversion(self, reading):
        conversion = Conversion()
        conversion.tell_words(bytes_of(lexicon_text(LEXICON)))
        conversion.tell_joins(bytes_of(joins_text(40, TABLE)))
        conversion.start(numbers_of(reading))
        return conversion

    def at(self, reading, cuts, choices, place):
        conversion = self.conversion(reading)
        conversion.turn.settled, conversion.turn.place = Settled(cuts, choices), place
        return conversion

    def settled(self, conversion):
        return all_of(conversion.turn)[:3]

    def test_width(self):
        conversion = self.conversion("aab")
        self.assertEqual(conversion.width(1), [0])
        self.assertEqual(self.settled(conversion), ({1: 1}, {}, 0))
        self.assertEqual(conversion.width(0), [0])
        self.assertEqual(self.settled(conversion), ({1: 2, 2: 1}, {}, 0))
        self.assertEqual(conversion.width(0), [0])
        # The cut at the reading's end is kept.
        self.assertEqual(self.settled(conversion), ({1: 2, 2: 2, 3: 1}, {}, 0))
        self.assertEqual(conversion.width(0), [-5])
        self.assertEqual(self.settled(conversion), ({1: 2, 2: 2, 3: 1}, {}, 0))

    def test_width_behind_something(self):
        conversion = self.at("baaabb", {1: 1, 2: 1, 3: 1, 4: 1, 5: 1, 6: 1}, {0: 4, 1: 0, 2: -1, 4: 4, 5: -1}, 2)
        self.assertEqual(conversion.width(0), [0])
        self.assertEqual(self.settled(conversion), ({1: 1, 2: 1, 3: 2, 4: 1}, {0: 4, 1: 0}, 2))

    def test_choose(self):
        conversion = self.conversion("aab")
        self.assertEqual(conversion.choose(1), [0])
        self.assertEqual(self.settled(conversion), ({2: 1}, {0: 1}, 0))
        self.assertEqual(conversion.move(0), [0])
        self.assertEqual(conversion.choose(0), [0])
        self.assertEqual(self.settled(conversion), ({2: 1, 3: 1}, {0: 1, 2: 4}, 2))
        self.assertEqual(conversion.choose(2), [-5])
        self.assertEqual(self.settled(conversion), ({2: 1, 3: 1}, {0: 1, 2: 4}, 2))

    def test_choose_from_the_middle_of_a_piece(self):
        conversion = self.at("baab", {1: 1, 2: 2}, {3: -1}, 2)
        self.assertEqual(conversion.choose(0), [0])
        self.assertEqual(self.settled(conversion), ({1: 1, 2: 2, 3: 1}, {1: 1, 3: -1}, 1))

    def test_take(self):
        conversion = self.at("baaab", {1: 1, 2: 1, 3: 2, 4: 1, 5: 1}, {0: -1, 2: 1, 4: 4}, 3)
        self.assertEqual(conversion.take(1), [1, 98])
        self.assertEqual(self.settled(conversion), ({1: 1, 2: 2, 3: 1, 4: 1}, {1: 1, 3: 4}, 2))
        self.assertEqual(conversion.take(1), [1, 65])
        self.assertEqual(self.settled(conversion), ({1: 2, 2: 1, 3: 1}, {0: 1, 2: 4}, 1))
        self.assertEqual(conversion.turn.sort_before, 1)
        self.assertEqual(conversion.take(1), [1, 66])
        self.assertEqual(self.settled(conversion), ({1: 1}, {0: 4}, 0))
        self.assertEqual(conversion.turn.sort_before, 2)

    def test_move_text_could_and_shown_settle_nothing(self):
        conversion = self.at("aab", {2: 1, 3: 1}, {2: 4}, 1)
        conversion.tell_text()
        conversion.shown()
        conversion.could(0)
        self.assertEqual(self.settled(conversion), ({2: 1, 3: 1}, {2: 4}, 1))
        conversion.move(0)
        self.assertEqual(self.settled(conversion), ({2: 1, 3: 1}, {2: 4}, 2))
        conversion.move(1)
        self.assertEqual(self.settled(conversion), ({2: 1, 3: 1}, {2: 4}, 0))


class Place(unittest.TestCase):
    def test_where_one_is(self):
        turn = Turn(tuple(numbers_of("aaab")))
        pieces = shown_pieces(WORDS, JOINS, turn)
        sizes = [piece.size for piece in pieces]
        expected = [number for number, size in enumerate(sizes) for step in range(size)]
        for place, number in enumerate(expected):
            turn.place = place
            self.assertEqual(where_one_is(turn, pieces), number)

    def test_chosen(self):
        turn = Turn(tuple(numbers_of("aab")))
        turn.settled = Settled({}, {2: 4})
        self.assertEqual([is_chosen(turn, piece) for piece in shown_pieces(WORDS, JOINS, turn)], [False, True])


if __name__ == "__main__":
    unittest.main()
