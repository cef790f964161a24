"""The one list of calls, and the one list of answers."""

import unittest

from kanaturn.conversion import answers
from tests.helper import BACK, BEGIN, GREATEST, NARROWER, ON, SHOWN, TEXT, WIDER, ask, choose, could, joins, more, move
from tests.helper import start, take, width, words

LEXICON = "a A 1 1 10\naa B 2 2 25\naa C 1 1 25\nb D 3 3 5\n"
TABLE = "40\n0 2 3\n1 1 20\n2 3 7\n"


# Each of the twelve calls, answered and refused.
ALL_CALLS = [BEGIN, TEXT, words(LEXICON), joins(TABLE), start("aab"), SHOWN, could(0), could(2), NARROWER, choose(1),
             ON, TEXT, BACK, BACK, WIDER, take(0), more("b"), take(1), width(2), move(GREATEST), words("a"), joins(""),
             SHOWN, take(2), SHOWN]


def flat(*calls):
    return [number for call in calls for number in call]


class Interface(unittest.TestCase):
    def test_empty_list(self):
        self.assertEqual(answers([]), [])

    def test_each_answer_has_its_count_before_it(self):
        calls = flat(BEGIN, SHOWN, words(LEXICON), joins(TABLE), words("a"), start("aab"), SHOWN)
        self.assertEqual(answers(calls), [
            1, 0,
            1, -4,
            1, 4,
            1, 3,
            3, -2, 0, 1,
            1, 0,
            10, 2, 0, 0, 2, 2, 0, 2, 1, 3, 0])

    def test_a_refusal_is_one_number(self):
        calls = flat(start([]), more("a"), start([0xD800]), start("a"), more("a" * 24))
        self.assertEqual(answers(calls), [1, -1, 1, -4, 1, -3, 1, 0, 1, -6])

    def test_text_could_and_take_have_no_count_but_their_own(self):
        calls = [words("a ABC 0 0 7\n"), start("ab"), TEXT, could(0), could(1), take(1), ON, WIDER, choose(0), take(1)]
        self.assertEqual(answers(flat(*calls)), [
            1, 1,
            1, 0,
            5, 4, 65, 66, 67, 98,
            5, 3, 65542, 65, 66, 67,
            3, 1, 131070, 97,
            4, 3, 65, 66, 67,
            1, -5,
            1, -5,
            1, 0,
            2, 1, 98])

    def test_each_call_with_its_own_numbers(self):
        told = ask(*ALL_CALLS)
        self.assertEqual([answer[0] for answer in told],
                         [0, -4, 4, 3, 0, 2, 1, -5, 0, 0, 0, 3, 0, -5, 0, -5, 0, 1, -1, -1, -2, -2, 2, 2, -4])

    def test_the_greatest_numbers(self):
        calls = [could(GREATEST), move(GREATEST), width(GREATEST), choose(GREATEST), take(GREATEST)]
        self.assertEqual(ask(*calls), [[-4], [-1], [-1], [-4], [-4]])
        self.assertEqual(ask(start("ab"), *calls)[1:], [[-5], [-1], [-1], [-5], [-5]])

    def test_a_number_behind_a_call_is_no_call(self):
        # 6 and 7 are numbers of calls, too.
        self.assertEqual(ask(start("ab"), could(6), choose(7), take(6), move(6), width(7), TEXT)[1:],
                         [[-5], [-5], [-5], [-1], [-1], [2, 97, 98]])

    def test_what_is_handed_in_is_not_changed(self):
        calls = flat(*ALL_CALLS)
        before = list(calls)
        answers(calls)
        self.assertEqual(calls, before)

    def test_not_for_a_while_either(self):
        class Held(list):
            """A list that can be read alone."""

            def refuse(self, *told):
                raise AssertionError("it's changed")

            append = extend = insert = pop = remove = clear = sort = reverse = refuse
            __setitem__ = __delitem__ = __iadd__ = __imul__ = refuse

        self.assertEqual(answers(Held(flat(*ALL_CALLS))), answers(flat(*ALL_CALLS)))

    def test_what_is_answered_is_a_list_of_its_own(self):
        calls = flat(start("a"), SHOWN)
        told = answers(calls)
        told.append(7)
        self.assertEqual(answers(calls), [1, 0, 6, 1, 0, 0, 1, -1, 0])

    def test_nothing_is_kept_from_one_time_to_the_next(self):
        calls = flat(words(LEXICON), joins(TABLE), start("aab"), SHOWN)
        told = answers(calls)
        self.assertEqual(answers(calls), told)
        settled = flat(words(LEXICON), joins(TABLE), start("aab"), NARROWER, choose(1), ON, take(1), TEXT)
        self.assertEqual(answers(settled), answers(settled))
        self.assertEqual(answers(calls), told)
        self.assertEqual(answers(SHOWN), [1, -4])
        self.assertEqual(answers(TEXT), [1, -4])
        self.assertEqual(answers(flat(start("aa"), SHOWN)), [1, 0, 10, 2, 0, 0, 1, -1, 0, 1, 1, -1, 0])

    def test_a_hundred_calls(self):
        self.assertEqual(ask(*[start("ab")] + [SHOWN] * 99), [[0]] + [[2, 0, 0, 1, -1, 0, 1, 1, -1, 0]] * 99)

    def test_a_hundred_calls_that_settle(self):
        steps = [NARROWER, choose(1), WIDER] * 32
        told = ask(words(LEXICON), joins(TABLE), start("aab"), *steps, TEXT)
        self.assertEqual(told, [[4], [3]] + [[0]] * 97 + [[2, 67, 68]])

    def test_a_hundred_calls_of_the_longest_kind(self):
        # All words stand at one place of 24 sounds.
        text = "".join([f"a w{number} {number} {number} {number}\n" for number in range(128)])
        told = ask(words(text), joins("9\n"), start("b" * 12 + "a" + "b" * 11), *[ON] * 12, *[could(128)] * 85)
        self.assertEqual(told[-1], [4, 127 + 23 * 9] + [ord(sign) for sign in "w127"])

    def test_the_longest_texts(self):
        # Of one line, so that nothing that's as long as its input may be nested.
        self.assertEqual(ask(words("a" * 20000), joins("1" * 4096)), [[-2, 0, 1]] * 2)
        self.assertEqual(ask(words("\u3042" * 6000 + " a 0 0 0\n")), [[-2, 0, 2]])
        self.assertEqual(ask(words("a a 0 0 " + "9" * 19990 + "\n"), joins("9" * 4095 + "\n")), [[-2, 0, 2]] * 2)
        self.assertEqual(ask(words("\n" * 20000), joins("\n" * 4096)), [[-2, 0, 1]] * 2)

    def test_a_text_above_65536_bytes_is_not_looked_at(self):
        self.assertEqual(ask(words("\n" * 65537), joins("\n" * 65537)), [[-1]] * 2)
        self.assertEqual(ask(words("\n" * 65536), joins("\n" * 65536)), [[-2, 0, 1]] * 2)


if __name__ == "__main__":
    unittest.main()
