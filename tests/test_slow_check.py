"""Drawn lists of calls: the program against the slow check, answer by answer.

Few letters, few sorts and small costs, so that many words stand at a place and many ways cost alike.
"""

import random
import unittest

from tests import helper
from tests.helper import GREATEST, Slow, ask, joins_text, lexicon_text

MOST_CALLS = 100
# Some are sounds themselves, so that a word may write what the sound by itself writes.
TEXTS = ("a", "b", "A", "B", "AB", "BA")


def drawn_lexicon(source, costs):
    lexicon = {}
    for step in range(source.randint(1, 8)):
        reading = "".join(source.choices("ab", k=source.choice((1, 1, 2, 2, 3, 4))))
        text = source.choice(TEXTS)
        sorts = (source.randint(0, 2), source.randint(0, 2))
        lexicon[(reading, text)] = (reading, text) + sorts + (source.randint(0, costs),)
    return list(lexicon.values())


def drawn_table(source, costs):
    return {(source.randint(0, 2), source.randint(0, 2)): source.randint(0, costs) for step in range(6)}


def drawn_reading(source, least, most):
    return "".join(source.choices("ab", k=source.randint(least, most)))


def drawn_call(source, costs):
    """A call as a name and what's told with it."""
    name = source.choices(("move", "width", "choose", "take", "more", "start", "words", "joins", "begin"),
                          (30, 25, 20, 8, 14, 2, 1, 1, 1))[0]
    if name in ("move", "width"):
        return (name, source.choice((2, GREATEST) if source.random() < 0.05 else (0, 1)))
    if name in ("choose", "take"):
        return (name, source.choice((0, 1, 1, 1, 2, 3, GREATEST)))
    if name == "more":
        return (name, drawn_reading(source, 1, 2))
    if name == "start":
        return (name, drawn_reading(source, 1, 5))
    if name == "words":
        return (name, drawn_lexicon(source, costs))
    if name == "joins":
        return (name, source.randint(0, costs + 1), drawn_table(source, costs))
    return (name,)


def in_numbers(call):
    """A drawn call as it stands in the list."""
    name, told = call[0], call[1:]
    if name == "words":
        return helper.words(lexicon_text(*told))
    if name == "joins":
        return helper.joins(joins_text(*told))
    if name in ("begin", "shown", "text"):
        return {"begin": helper.BEGIN, "shown": helper.SHOWN, "text": helper.TEXT}[name]
    return getattr(helper, name)(*told)


def drawn_list(source, costs):
    """Calls on one object, and the slow check's answers to them."""
    slow = Slow()
    calls = []
    answered = []

    def call(*drawn):
        calls.append(drawn)
        answered.append(getattr(slow, drawn[0])(*drawn[1:]))

    call("words", drawn_lexicon(source, costs))
    call("joins", source.randint(0, costs + 1), drawn_table(source, costs))
    call("start", drawn_reading(source, 1, 6))
    while len(calls) < MOST_CALLS - 4:
        drawn = drawn_call(source, costs)
        if drawn[0] == "more" and len(slow.reading) > 5:
            continue
        call(*drawn)
        call("shown")
        call(*source.choice((("text",), ("could", 0), ("could", 1), ("could", 2))))
        if not slow.reading and source.random() < 0.7:
            call("start", drawn_reading(source, 1, 6))
    return calls, answered


class SlowCheck(unittest.TestCase):
    def check(self, source, costs):
        calls, expected = drawn_list(source, costs)
        self.assertLessEqual(len(calls), MOST_CALLS)
        told = ask(*[in_numbers(call) for call in calls])
        for number, call in enumerate(calls):
            self.assertEqual(told[number], expected[number], calls[:number + 1])
        return [(call[0], answer[0]) for call, answer in zip(calls, expected)]

    def check_many(self, seed, costs, how_many):
        source = random.Random(seed)
        seen = []
        for trial in range(how_many):
            seen += self.check(source, costs)
        return seen

    def test_all_costs_alike(self):
        self.check_many(1, 0, 60)

    def test_few_costs(self):
        self.check_many(2, 1, 80)
        self.check_many(3, 2, 80)

    def test_many_costs(self):
        self.check_many(4, 9, 60)
        self.check_many(5, 60000, 30)

    def test_the_drawn_calls_are_not_all_refused(self):
        seen = self.check_many(6, 3, 40)
        for name in ("more", "move", "width", "choose"):
            self.assertGreater(seen.count((name, 0)), 40, name)
            self.assertGreater(seen.count((name, -4)), 0, name)
        for name in ("move", "width"):
            self.assertGreater(seen.count((name, -1)), 0, name)
        for name in ("could", "move", "width", "choose", "take"):
            self.assertGreater(seen.count((name, -5)), 10, name)
        self.assertGreater(len([answer for name, answer in seen if name == "take" and answer > 0]), 40)


if __name__ == "__main__":
    unittest.main()
