"""words: a lexicon's text, its order, its faults."""

import unittest

from tests.helper import SHOWN, ask, joins, last, more, shown_words, start, words

WIDE = "\u3042"
FOUR_BYTES = "\U00010000"


def line(reading="a", text="A", left="0", right="0", cost="0"):
    return f"{reading} {text} {left} {right} {cost}\n"


def many(count):
    return "".join([line(text=f"w{number}") for number in range(count)])


class Right(unittest.TestCase):
    def test_how_many(self):
        self.assertEqual(ask(words(line())), [[1]])
        self.assertEqual(ask(words(line() + line("b") + line("a", "B"))), [[3]])

    def test_the_empty_text(self):
        self.assertEqual(ask(words("")), [[0]])
        self.assertEqual(shown_words(words(line()), words(""), start("a")), [-1])

    def test_a_text_takes_the_place_of_the_one_before(self):
        calls = [words(line("a", cost="1")), words(line("b", "B") + line("c", "C")), start("abc")]
        self.assertEqual(shown_words(*calls), [-1, 0, 1])

    def test_joins_stay(self):
        text = line("a", "A", "1", "1") + line("a", "B", "2", "2", "5")
        self.assertEqual(shown_words(joins("9\n0 1 6\n"), words(text), start("a")), [1])

    def test_a_turn_under_way_is_over(self):
        self.assertEqual(ask(start("a"), words(line()), SHOWN, more("a")), [[0], [1], [-4], [-4]])
        self.assertEqual(ask(start("a"), words(""), SHOWN), [[0], [0], [-4]])

    def test_characters(self):
        for sign in ("!", "~", "\x80", "\xa0", "\u07ff", "\u0800", "\ud7ff", "\ue000", "\ufeff", "\uffff",
                     "\U00010000", "\U0010ffff"):
            text = words(line(sign, sign))
            self.assertEqual(ask(text, start(sign), SHOWN), [[1], [0], [1, 0, 0, 1, 0, 0]], repr(sign))

    def test_a_reading_is_of_characters_not_bytes(self):
        self.assertEqual(shown_words(words(line("\xe3\x81")), start(WIDE)), [-1])
        self.assertEqual(last(words(line(WIDE + FOUR_BYTES)), start(WIDE + FOUR_BYTES), SHOWN), [1, 0, 0, 2, 0, 0])


class Order(unittest.TestCase):
    """Words are of sort 0 and cost nothing but where it's told, so that the wanted one is shown."""

    def numbers(self, told, reading):
        return shown_words(words("".join(told)), start(reading))

    def both(self, told, reading, expected):
        self.assertEqual(self.numbers(told, reading), expected)
        self.assertEqual(self.numbers(list(reversed(told)), reading), expected)

    def test_by_readings(self):
        self.both([line("c"), line("a"), line("b")], "abc", [0, 1, 2])
        self.both([line("\uffff"), line("\U00010000"), line("z")], "\U00010000\uffffz", [2, 1, 0])
        self.both([line("ab", cost="0"), line("b", cost="9")], "bab", [1, 0])

    def test_a_beginning_before_what_it_begins(self):
        self.both([line("a", cost="3"), line("ab"), line("b")], "aab", [0, 1])
        self.both([line("ab", cost="0"), line("aa", cost="0"), line("a", cost="3")], "aaaab", [1, 0, 2])

    def test_by_costs_of_one_reading(self):
        # The dearer one is shown, for its sort: so its number is seen.
        table = joins("65535\n0 1 10000\n")
        for dear, cheap in (("10", "9"), ("2000", "300"), ("1", "0")):
            told = [line("a", "A", cost=dear), line("a", "B", "1", "1", cheap)]
            for text in (told, list(reversed(told))):
                self.assertEqual(shown_words(table, words("".join(text)), start("a")), [1])

    def test_by_texts_of_one_cost(self):
        table = joins("65535\n0 1 10000\n")
        for first, second in (("A", "B"), ("A", "AA"), ("AB", "B"), ("AAB", "AB"), ("\uffff", "\U00010000")):
            told = [line("a", first, "1", "1", "5"), line("a", second, "0", "0", "5")]
            for text in (told, list(reversed(told))):
                self.assertEqual(shown_words(table, words("".join(text)), start("a")), [1])

    def test_costs_before_texts_and_readings_before_costs(self):
        table = joins("65535\n0 1 10000\n")
        text = line("a", "Z", "1", "1", "4") + line("a", "A", "0", "0", "5") + line("b", "B", "0", "0", "0")
        self.assertEqual(shown_words(table, words(text), start("ab")), [1, 2])


class Faults(unittest.TestCase):
    def fault(self, text, number, kind):
        self.assertEqual(ask(words(text)), [[-2, number, kind]], repr(text))

    def wrong(self, text, kind):
        """A wrong line by itself, behind right ones, and before one that's wrong otherwise."""
        text = text.encode("utf-8") if isinstance(text, str) else text
        self.fault(text, 0, kind)
        self.fault(line("x").encode() + line("y").encode() + text, 2, kind)
        if text.endswith(b"\n"):
            self.fault(text + b"\n", 0, kind)
            self.fault(text + line(cost="65536").encode(), 0, kind)

    def right(self, text, count=1):
        self.assertEqual(ask(words(text)), [[count]], repr(text))


class FirstKind(Faults):
    def test_bytes_that_are_no_utf8(self):
        not_shortest = [b"\xc0\x80", b"\xc1\xbf", b"\xc1\x81", b"\xe0\x80\x80", b"\xe0\x9f\xbf",
                        b"\xf0\x80\x80\x80", b"\xf0\x8f\xbf\xbf"]
        no_characters = [b"\xed\xa0\x80", b"\xed\xaf\xbf", b"\xed\xb0\x80", b"\xed\xbf\xbf",
                         b"\xf4\x90\x80\x80", b"\xf7\xbf\xbf\xbf", b"\xf5\x80\x80\x80"]
        cut_short = [b"\xc3", b"\xe3", b"\xe3\x81", b"\xf0", b"\xf0\x90", b"\xf0\x90\x80"]
        broken = [b"\xc3a", b"\xe3\x81a", b"\xe3a\x81", b"\xf0\x90\x80a", b"\xe3\xc2\x80", b"\xe3\x81\xc0",
                  b"\xc3\x7f", b"\xc3\xff"]
        never_first = [b"\x80", b"\xbf", b"\xf8\x88\x80\x80\x80", b"\xfc\x84\x80\x80\x80\x80", b"\xfe", b"\xff"]
        for row in not_shortest + no_characters + cut_short + broken + never_first:
            for part in (row, b"k" + row, row + b"k", row + "\u3042".encode()):
                self.wrong(part + b" A 0 0 0\n", 1)
                self.wrong(b"a " + part + b" 0 0 0\n", 1)

    def test_a_character_parted_by_a_lines_end_or_a_blank(self):
        self.fault(b"\xe3\n\x81\x82 A 0 0 0\n", 0, 1)
        self.fault(b"a A 0 0 0\nb \xe3\x81\n\x82 0 0 0\n", 1, 1)
        self.fault(b"\xe3 \x81\x82 0 0 0\n", 0, 1)

    def test_no_utf8_in_a_number(self):
        self.wrong(b"a A 0 0 \xff\n", 1)
        self.wrong(b"a A \x80 0 0\n", 1)

    def test_signs_that_may_not_stand_there(self):
        for sign in [code for code in range(0x20) if code != 0x0A] + [0x7F]:
            for part in (bytes([sign]), b"x" + bytes([sign]), bytes([sign]) + b"x"):
                self.wrong(part + b" A 0 0 0\n", 1)
                self.wrong(b"a " + part + b" 0 0 0\n", 1)
                self.wrong(b"a A 0 0 0" + part + b"\n", 1)

    def test_an_empty_part(self):
        for text in (" A 0 0 0\n", "a  0 0 0\n", "a A  0 0\n", "a A 0  0\n", "a A 0 0 \n", "    \n"):
            self.wrong(text, 1)

    def test_more_or_fewer_parts(self):
        for text in ("a\n", "a A\n", "a A 0\n", "a A 0 0\n", "a A 0 0 0 0\n", "a A 0 0 0 \n", " a A 0 0 0\n",
                     "a  A 0 0 0\n", "a A 0 0 0 0 0\n"):
            self.wrong(text, 1)

    def test_a_number_with_a_0_first(self):
        for number in ("00", "01", "007", "000"):
            self.wrong(line(left=number), 1)
            self.wrong(line(right=number), 1)
            self.wrong(line(cost=number), 1)
        self.right(line(left="10", right="100", cost="0") + line("b", cost="1000"), 2)

    def test_a_number_that_is_none(self):
        for number in ("x", "-1", "+1", "1x", "x1", "1.0", "0x1", "1_0", "/", ":", "-", "\u0661", "\uff11", "1\r",
                       "A", "1e1"):
            self.wrong(line(left=number), 1)
            self.wrong(line(right=number), 1)
            self.wrong(line(cost=number), 1)

    def test_no_end_behind_the_last_line(self):
        self.wrong("a A 0 0 0", 1)
        self.wrong("a", 1)
        self.wrong(" ", 1)
        self.wrong("x A 0 0 65536", 1)
        self.wrong("a A 0 0 0\r", 1)

    def test_an_empty_line(self):
        self.wrong("\n", 1)
        self.fault(line() + "\n", 1, 1)
        self.fault(line() + "\n" + line("b"), 1, 1)


class OtherKinds(Faults):
    def test_32_and_33_characters(self):
        for sign in ("k", WIDE, FOUR_BYTES):
            self.right(line(sign * 32) + line("a", sign * 32), 2)
            self.wrong(line(sign * 33), 2)
            self.wrong(line("a", sign * 33), 2)
        self.wrong(line("k" * 1000, "k" * 1000), 2)

    def test_sorts(self):
        self.right(line(left="255", right="255"))
        for number in ("256", "300", "1000", "65535", "99999999999999999999"):
            self.wrong(line(left=number), 2)
            self.wrong(line(right=number), 2)

    def test_costs(self):
        self.right(line(cost="65535"))
        for number in ("65536", "65540", "70000", "100000", "655350", "9" * 5000):
            self.wrong(line(cost=number), 2)

    def test_the_same_reading_and_text(self):
        self.fault(line() + line(), 1, 3)
        self.fault(line() + line("b") + line("a", "A", "1", "2", "3"), 2, 3)
        self.fault(line() + line("b") + line("b") + line(), 2, 3)
        self.fault(line(WIDE, WIDE) + line(WIDE, WIDE), 1, 3)
        self.right(line("a", "A") + line("a", "B") + line("b", "A") + line("A", "a"), 4)
        self.right(line("ab", "c") + line("a", "bc"), 2)

    def test_the_129th_line(self):
        self.right(many(128), 128)
        self.fault(many(129), 128, 4)
        self.fault(many(300), 128, 4)
        self.fault(many(128) + line("b") + "\n", 128, 4)

    def test_of_one_line_the_least_kind(self):
        self.wrong(line("k" * 33, cost="x"), 1)
        self.wrong(line("k" * 33, "\x7f"), 1)
        self.wrong(line("\t", "k" * 33), 1)
        self.wrong(line("k" * 33, left="256", right="01"), 1)
        self.wrong("a A 256 256\n", 1)
        self.fault(line() + line(left="256"), 1, 2)
        self.fault(line() + line(cost="65536"), 1, 2)
        self.fault(line() + line().rstrip("\n"), 1, 1)
        self.fault(many(128) + "\n", 128, 1)
        self.fault(many(128) + line("b").rstrip("\n"), 128, 1)
        self.fault(many(128) + line("b", right="256"), 128, 2)
        self.fault(many(128) + line("a", "w7"), 128, 3)

    def test_of_several_lines_the_first(self):
        self.fault(line() + line(left="256") + "\n" + line(), 1, 2)
        self.fault(line() + line() + "\n", 1, 3)
        self.fault("\n" + line(left="256") + line(), 0, 1)
        self.fault(many(127) + line("b", cost="65536") + many(5) + "x", 127, 2)


class Refused(unittest.TestCase):
    def test_the_object_is_as_it_was(self):
        before = [words(line("a", cost="3") + line("ab", "B", "1")), joins("2\n0 1 4\n"), start("ab")]
        shown = last(*before, SHOWN)
        wrong = [words(line("b", cost="0") + "\n"), words(line() + line()), words(line(cost="65536")), words(many(129))]
        for refused in wrong:
            told = ask(*before, refused, SHOWN, more("a"), start("ab"), SHOWN)
            self.assertEqual(told[3][0], -2)
            self.assertEqual(told[4:], [shown, [0], [0], shown])

    def test_the_turn_goes_on(self):
        told = ask(words(line("ab")), start("a"), words("x"), more("b"), SHOWN)
        self.assertEqual(told[2:], [[-2, 0, 1], [0], [1, 0, 0, 2, 0, 0]])


if __name__ == "__main__":
    unittest.main()
