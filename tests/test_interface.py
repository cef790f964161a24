"""The one list of calls, and the one list of answers."""

import unittest

from kanaturn.conversion import answers
from tests.helper import BEGIN, SHOWN, ask, joins, more, start, words

LEXICON = "a A 1 1 10\naa B 2 2 25\naa C 1 1 25\nb D 3 3 5\n"
TABLE = "40\n0 2 3\n1 1 20\n2 3 7\n"


def flat(*calls):
    return [number for call in calls for number in call]


class Interface(unittest.TestCase):
    def test_empty_list(self):
        self.assertEqual(answers([]), [])

    def test_each_answer_has_its_count_before_it(self):
        calls = flat(BEGIN, SHOWN, words(LEXICON), joins(TABLE), words("a"), start("aab"), SHOWN)
        self.assertEqual(answers(calls), [
            1, 0,
            1, -4,
            1, 4,
            1, 3,
            3, -2, 0, 1,
            1, 0,
            10, 2, 0, 0, 2, 2, 0, 2, 1, 3, 0])

    def test_a_refusal_is_one_number(self):
        calls = flat(start([]), more("a"), start([0xD800]), start("a"), more("a" * 24))
        self.assertEqual(answers(calls), [1, -1, 1, -4, 1, -3, 1, 0, 1, -6])

    def test_what_is_handed_in_is_not_changed(self):
        calls = flat(words(LEXICON), joins(TABLE), start("aa"), more("b"), SHOWN, words("\n"), joins(""), BEGIN)
        before = list(calls)
        answers(calls)
        self.assertEqual(calls, before)

    def test_what_is_answered_is_a_list_of_its_own(self):
        calls = flat(start("a"), SHOWN)
        told = answers(calls)
        told.append(7)
        self.assertEqual(answers(calls), [1, 0, 6, 1, 0, 0, 1, -1, 0])

    def test_nothing_is_kept_from_one_time_to_the_next(self):
        calls = flat(words(LEXICON), joins(TABLE), start("aab"), SHOWN)
        told = answers(calls)
        self.assertEqual(answers(calls), told)
        self.assertEqual(answers(SHOWN), [1, -4])
        self.assertEqual(answers(flat(start("aa"), SHOWN)), [1, 0, 10, 2, 0, 0, 1, -1, 0, 1, 1, -1, 0])

    def test_a_hundred_calls(self):
        self.assertEqual(ask(*[start("ab")] + [SHOWN] * 99), [[0]] + [[2, 0, 0, 1, -1, 0, 1, 1, -1, 0]] * 99)

    def test_the_longest_texts(self):
        # Of one line, so that nothing that's as long as its input may be nested.
        self.assertEqual(ask(words("a" * 20000), joins("1" * 4096)), [[-2, 0, 1]] * 2)
        self.assertEqual(ask(words("\u3042" * 6000 + " a 0 0 0\n")), [[-2, 0, 2]])
        self.assertEqual(ask(words("a a 0 0 " + "9" * 19990 + "\n"), joins("9" * 4095 + "\n")), [[-2, 0, 2]] * 2)
        self.assertEqual(ask(words("\n" * 20000), joins("\n" * 4096)), [[-2, 0, 1]] * 2)

    def test_a_text_above_65536_bytes_is_not_looked_at(self):
        self.assertEqual(ask(words("\n" * 65537), joins("\n" * 65537)), [[-1]] * 2)
        self.assertEqual(ask(words("\n" * 65536), joins("\n" * 65536)), [[-2, 0, 1]] * 2)


class Run(unittest.TestCase):
    def test_the_documents_run(self):
        told = ask(words(LEXICON), joins(TABLE), start("aab"), SHOWN)
        self.assertEqual(told, [[4], [3], [0], [2, 0, 0, 2, 2, 0, 2, 1, 3, 0]])

    def test_more_of_the_runs_words(self):
        told = ask(words(LEXICON), joins(TABLE), start("ab"), SHOWN, more("b"), SHOWN)
        self.assertEqual(told[3], [2, 0, 0, 1, 0, 0, 1, 1, 3, 0])
        self.assertEqual(told[5], [3, 0, 0, 1, 0, 0, 1, 1, 3, 0, 2, 1, 3, 0])


if __name__ == "__main__":
    unittest.main()
