"""F1 to F6 as they're said, over drawn tables, readings and rows of calls.

What's settled is kept account of by the slow check; what's shown, taken and offered is the program's.
"""

import random
import unittest

from tests import helper
from tests.helper import BACK, GREATEST, NARROWER, ON, SHOWN, TEXT, WIDER, Slow, all_ways, ask, choose, could, joins
from tests.helper import joins_text, keeps, last, lexicon_text, more, move, offers, pieces, start, state, take, text_in
from tests.helper import where, width, words, written

STEPS = (("move", 0), ("move", 1), ("width", 0), ("width", 1), ("choose", 0), ("choose", 1), ("choose", 2))


class Talk:
    """Calls on one object, and the slow check that heard the same."""

    def __init__(self, source, letters="ab", costs=3):
        self.slow = Slow()
        self.calls = []
        lexicon = {}
        for step in range(source.randint(2, 7)):
            reading = "".join(source.choices(letters, k=source.choice((1, 1, 2, 2, 3))))
            text = source.choice(("a", "b", "A", "B", "C", "AB"))
            sorts = (source.randint(0, 2), source.randint(0, 2))
            lexicon[(reading, text)] = (reading, text) + sorts + (source.randint(0, costs),)
        table = {(source.randint(0, 2), source.randint(0, 2)): source.randint(0, costs) for step in range(6)}
        alone = source.randint(0, costs)
        self.slow.words(list(lexicon.values()))
        self.slow.joins(alone, table)
        self.calls += [words(lexicon_text(list(lexicon.values()))), joins(joins_text(alone, table))]

    def do(self, name, told):
        getattr(self.slow, name)(told)
        self.calls.append(getattr(helper, name)(told))
        return last(*self.calls)

    def pieces(self):
        return pieces(*self.calls)

    def way(self):
        return [(size, number) for place, size, number, chosen in self.pieces()]

    def cost(self):
        return self.slow.cost(self.way())


def talks(seed, how_many, steps, most=5):
    """Talks in which something was settled, or taken, or added."""
    source = random.Random(seed)
    for trial in range(how_many):
        talk = Talk(source)
        talk.do("start", "".join(source.choices("ab", k=source.randint(2, most))))
        for step in range(source.randint(0, steps)):
            drawn = source.random()
            if drawn < 0.1:
                talk.do("more", source.choice("ab"))
            elif drawn < 0.2 and len(talk.pieces()) > 1:
                talk.do("take", 1)
            else:
                talk.do(*source.choice(STEPS))
        yield talk


class Shown(unittest.TestCase):
    def test_f1_it_keeps_what_is_settled_and_costs_least(self):
        settled = 0
        for talk in talks(1, 250, 6):
            self.assertTrue(keeps(talk.way(), talk.slow.cuts, talk.slow.choices), talk.calls)
            kept = talk.slow.kept(talk.slow.cuts, talk.slow.choices)
            self.assertEqual(talk.cost(), min(talk.slow.cost(way) for way in kept), talk.calls)
            settled += 1 if talk.slow.choices and len(kept) > 1 else 0
        self.assertGreater(settled, 40)

    def test_f2_the_pieces_make_up_the_reading(self):
        for talk in talks(2, 250, 6):
            place = 0
            for at, size, number, chosen in talk.pieces():
                self.assertEqual(at, place, talk.calls)
                if number == -1:
                    self.assertEqual(size, 1, talk.calls)
                else:
                    self.assertEqual(talk.slow.reading[at:at + size], talk.slow.lexicon[number][0], talk.calls)
                place += size
            self.assertEqual(place, len(talk.slow.reading), talk.calls)


class Taken(unittest.TestCase):
    def test_f2_taken_and_left_make_up_what_was_started_and_added(self):
        source = random.Random(3)
        for trial in range(120):
            talk = Talk(source)
            added = "".join(source.choices("ab", k=source.randint(2, 5)))
            talk.do("start", added)
            gone = 0
            for step in range(source.randint(2, 8)):
                if source.random() < 0.3:
                    sounds = source.choice("ab")
                    # With too many ways it's refused, and not added.
                    added += sounds if talk.do("more", sounds) == [0] else ""
                elif source.random() < 0.4 and len(talk.pieces()) > 1:
                    count = source.randint(1, len(talk.pieces()) - 1)
                    gone += sum([piece[1] for piece in talk.pieces()[:count]])
                    talk.do("take", count)
                else:
                    talk.do(*source.choice(STEPS))
                left = "".join([added[gone + at:gone + at + size] for at, size, number, chosen in talk.pieces()])
                self.assertEqual(added[:gone] + left, added, talk.calls)
                for at, size, number, chosen in talk.pieces():
                    if number >= 0:
                        self.assertEqual(added[gone + at:gone + at + size], talk.slow.lexicon[number][0], talk.calls)

    def test_f3_the_rest_is_shown_as_it_was(self):
        for talk in talks(4, 250, 6):
            before = talk.pieces()
            text = written(*talk.calls)
            for count in range(1, len(before)):
                gone = before[count][0]
                taken = text_in(last(*talk.calls, take(count)))
                rest = [(at - gone, size, number, chosen) for at, size, number, chosen in before[count:]]
                self.assertEqual(pieces(*talk.calls, take(count)), rest, talk.calls)
                self.assertEqual(taken + written(*talk.calls, take(count)), text, talk.calls)
                self.assertEqual(where(*talk.calls, take(count)), max(where(*talk.calls) - count, 0), talk.calls)
            self.assertEqual(ask(*talk.calls, take(len(before)), SHOWN)[-2:], [last(*talk.calls, TEXT), [-4]])


class Could(unittest.TestCase):
    def test_f4_it_is_told_whole_each_text_once_in_order(self):
        for talk in talks(5, 250, 6):
            told = offers(*talk.calls)
            at, size, number, chosen = talk.pieces()[where(*talk.calls)]
            sounds = talk.slow.reading[at:at + size]
            texts = {word[1] for word in talk.slow.lexicon if word[0] == sounds} | ({sounds} if size == 1 else set())
            self.assertEqual(sorted([text for text, cost in told]), sorted(texts), talk.calls)
            self.assertEqual(sorted([cost for text, cost in told]), [cost for text, cost in told], talk.calls)

    def test_f4_the_first_costs_what_is_shown_does(self):
        checked = 0
        for talk in talks(6, 250, 6):
            if talk.pieces()[where(*talk.calls)][3] == 0:
                self.assertEqual(offers(*talk.calls)[0][1], talk.cost(), talk.calls)
                checked += 1
        self.assertGreater(checked, 80)

    def test_f4_chosen_it_is_shown_there_at_what_it_would_cost(self):
        for talk in talks(7, 200, 6):
            number = where(*talk.calls)
            at, size = talk.pieces()[number][:2]
            for offer, (text, cost) in enumerate(offers(*talk.calls)):
                calls = talk.calls + [choose(offer)]
                self.assertEqual(last(*calls), [0], calls)
                found = pieces(*calls)
                there = found[where(*calls)]
                self.assertEqual((there[0], there[1], there[3]), (at, size, 1), calls)
                self.assertEqual(talk.slow.piece_text(at, there[2]), text, calls)
                self.assertEqual(talk.slow.cost([piece[1:3] for piece in found]), cost, calls)


class BroughtAbout(unittest.TestCase):
    def bring_about(self, calls, way, lexicon, reading):
        """The calls, and behind them a row of moves, widths and choosings with which a way's text is shown."""
        before = len(calls)
        calls = list(calls)
        place = 0
        for size, number in way:
            for step in range(2 * len(reading)):
                here = pieces(*calls)[where(*calls)]
                self.assertEqual(here[0], place, calls)
                if here[1] == size:
                    break
                calls.append(WIDER if here[1] < size else NARROWER)
            text = reading[place] if number == -1 else lexicon[number][1]
            calls.append(choose([offer[0] for offer in offers(*calls)].index(text)))
            place += size
            if place < len(reading):
                calls.append(ON)
        self.assertLessEqual(len(calls), 100)
        self.assertEqual(ask(*calls)[before:], [[0]] * (len(calls) - before), calls)
        return calls

    def check(self, talk):
        text_by_way = {}
        reading, lexicon = talk.slow.reading, talk.slow.lexicon
        for way in all_ways(lexicon, reading):
            place, text = 0, ""
            for size, number in way:
                text += talk.slow.piece_text(place, number)
                place += size
            text_by_way.setdefault(text, way)
        for text, way in text_by_way.items():
            calls = self.bring_about(talk.calls, way, lexicon, reading)
            self.assertEqual(written(*calls), text, calls)
        return len(text_by_way)

    def test_f5_whatever_some_way_writes(self):
        source = random.Random(8)
        texts = 0
        for trial in range(25):
            talk = Talk(source)
            talk.do("start", "".join(source.choices("ab", k=source.randint(1, 4))))
            texts += self.check(talk)
        self.assertGreater(texts, 100)

    def test_f5_with_something_settled_and_taken(self):
        for talk in talks(9, 20, 5, most=4):
            calls = list(talk.calls)
            while where(*calls) > 0:
                calls.append(BACK)
            talk.calls = calls
            self.check(talk)


class Refused(unittest.TestCase):
    def refused(self, talk):
        """Calls that must be refused, whatever is under way, and some that are so only now."""
        found = talk.pieces()
        number = where(*talk.calls)
        offered = len(offers(*talk.calls))
        calls = [move(2), width(2), move(GREATEST), width(GREATEST), could(offered), could(GREATEST), choose(offered),
                 choose(GREATEST), take(0), take(len(found) + 1), take(GREATEST), start(""), start([0xD800]), more(""),
                 more([0x110000]), more("a" * 24), start("a" * 25), words("a"), joins("")]
        calls += [BACK] if number == 0 else []
        calls += [ON] if number == len(found) - 1 else []
        return calls + [step for step in (WIDER, NARROWER) if last(*talk.calls, step) == [-5]]

    def test_f6_refused_calls_change_nothing(self):
        for talk in talks(10, 25, 6):
            before = state(*talk.calls)
            for call in self.refused(talk):
                self.assertLess(last(*talk.calls, call)[0], 0, talk.calls + [call])
                self.assertEqual(state(*talk.calls, call), before, talk.calls + [call])
                # What can't be seen now may be seen later.
                for behind in ([more("a")], [take(1), more("b")], [BACK, WIDER], [ON, choose(1)], [NARROWER, ON]):
                    self.assertEqual(ask(*talk.calls, call, *behind, SHOWN)[-1], last(*talk.calls, *behind, SHOWN))


if __name__ == "__main__":
    unittest.main()
