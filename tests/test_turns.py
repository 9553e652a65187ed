"""Points [8] and [9] and the interface of endbook/turns.py."""

import string
import unittest

from endbook.errors import EndError, NoPlace
from endbook.turns import borders, is_turn, least_turn, pattern_of, turned
from samples import GREAT_NUMBERS, TEXTS, THOUSANDS, grown, mixed, refused_as, repeated_texts, short_texts

KINDS = (NoPlace, EndError, ValueError)


def turn_by_walking(text, place):
    """Letter by letter, once round the ring."""
    return "".join(text[(place + step) % len(text)] for step in range(len(text)))


def all_turns(text):
    return [turn_by_walking(text, place) for place in range(len(text))]


def least_by_writing_out(text):
    turns = all_turns(text)
    return turns.index(min(turns)) if turns else 0


def border_by_looking(text):
    """Each length looked at, the longest first."""
    for length in range(len(text) - 1, 0, -1):
        if text[:length] == text[len(text) - length :]:
            return length
    return 0


def pattern_by_writing(text):
    """Each beginning written again and again, the shortest first."""
    for length in range(1, len(text) + 1):
        for times in range(1, len(text) + 1):
            if text[:length] * times == text:
                return (text[:length], times)
    return ("", 0)


def looked_at():
    yield from short_texts()
    yield from repeated_texts()


class Turns(unittest.TestCase):
    def test_written_out(self):
        self.assertEqual([turned("abc", place) for place in range(3)], ["abc", "bca", "cab"])
        self.assertEqual([turned("aab", place) for place in range(3)], ["aab", "aba", "baa"])
        self.assertEqual(turned("z", 0), "z")
        self.assertEqual(turned("banana", 5), "abanan")

    def test_all_places_against_walking_round(self):
        for text in looked_at():
            self.assertEqual([turned(text, place) for place in range(len(text))], all_turns(text), text)

    def test_longer_texts_against_walking_round(self):
        for name, text in list(TEXTS.items()) + list(THOUSANDS.items()):
            with self.subTest(name):
                for place in {0, 1, len(text) // 2, len(text) - 1}:
                    if 0 <= place < len(text):
                        self.assertEqual(turned(text, place), turn_by_walking(text, place))

    def test_places_below_nought_are_refused(self):
        for text in ("a", "ab", "aaa", "banana", "q" * 1000):
            for place in (-1, -2, -len(text), -len(text) - 1, -2 * len(text)):
                with self.subTest(text[:9], place=place):
                    refused_as(self, KINDS, turned, text, place)

    def test_places_from_the_length_on_are_refused(self):
        for text in ("a", "ab", "aaa", "banana", "q" * 1000):
            self.assertEqual(turned(text, len(text) - 1), text[-1] + text[:-1])
            for place in (len(text), len(text) + 1, 2 * len(text)):
                with self.subTest(text[:9], place=place):
                    refused_as(self, KINDS, turned, text, place)

    def test_the_empty_text_has_no_places(self):
        for place in (-2, -1, 0, 1, 2):
            refused_as(self, KINDS, turned, "", place)

    def test_great_numbers_are_refused(self):
        for text in ("", "a", "banana", "q" * 1000):
            for place in GREAT_NUMBERS:
                with self.subTest(text[:9], place=place):
                    refused_as(self, KINDS, turned, text, place)


class TheSameRing(unittest.TestCase):
    def test_written_out(self):
        for one, other in (("abc", "bca"), ("abc", "abc"), ("a", "a"), ("aab", "baa"), ("abab", "baba")):
            self.assertIs(is_turn(one, other), True)
            self.assertIs(is_turn(other, one), True)
        for one, other in (("abc", "acb"), ("aabb", "abab"), ("a", "b"), ("abc", "cba"), ("ab", "cd")):
            self.assertIs(is_turn(one, other), False)
            self.assertIs(is_turn(other, one), False)

    def test_the_empty_text_is_the_same_ring_as_itself_alone(self):
        self.assertIs(is_turn("", ""), True)
        for name, text in TEXTS.items():
            if text:
                with self.subTest(name):
                    self.assertIs(is_turn("", text), False)
                    self.assertIs(is_turn(text, ""), False)

    def test_texts_of_different_lengths(self):
        for one, other in (("a", "aa"), ("ab", "aba"), ("ab", "abab"), ("abc", "ab"), ("a" * 1000, "a" * 999)):
            self.assertIs(is_turn(one, other), False)
            self.assertIs(is_turn(other, one), False)

    def test_pairs_of_short_texts(self):
        texts = sorted({text for text in short_texts() if len(text) <= 4})
        for one in texts:
            for other in texts:
                same = other in all_turns(one) or one == other == ""
                self.assertIs(is_turn(one, other), same, (one, other))

    def test_the_same_letters_in_another_order(self):
        for text in repeated_texts():
            back = text[::-1]
            swapped = text[1:2] + text[:1] + text[2:]
            for other in (back, swapped, "".join(sorted(text))):
                self.assertIs(is_turn(text, other), other in all_turns(text), (text, other))

    def test_all_turns_of_repeats(self):
        for text in list(repeated_texts())[::5]:
            for turn in all_turns(text):
                self.assertIs(is_turn(text, turn), True, (text, turn))

    def test_a_thousand_letters(self):
        for name, text in THOUSANDS.items():
            with self.subTest(name):
                self.assertIs(is_turn(text, text[333:] + text[:333]), True)
                self.assertIs(is_turn(text[1:] + text[:1], text), True)
                self.assertIs(is_turn(text, text[:-1] + "c" if text[-1] != "c" else text[:-1] + "d"), False)


class TheLeastTurn(unittest.TestCase):
    def test_written_out(self):
        self.assertEqual(least_turn(""), 0)
        self.assertEqual(least_turn("a"), 0)
        self.assertEqual(least_turn("ab"), 0)
        self.assertEqual(least_turn("ba"), 1)
        self.assertEqual(least_turn("banana"), 5)
        self.assertEqual(least_turn("abaab"), 2)
        self.assertEqual(least_turn(string.ascii_lowercase[::-1]), 25)
        self.assertEqual(least_turn("aba"), 2)
        # The least end is the last a alone; the least turn isn't the one from there.
        self.assertEqual(least_turn("baaba"), 1)

    def test_the_first_of_several_places(self):
        self.assertEqual(least_turn("aaaa"), 0)
        self.assertEqual(least_turn("abab"), 0)
        self.assertEqual(least_turn("baba"), 1)
        self.assertEqual(least_turn("cabcab"), 1)
        self.assertEqual(least_turn("cabcabcab"), 1)
        self.assertEqual(least_turn("aabaaaba"), 3)
        self.assertEqual(least_turn("a" * 1000), 0)
        self.assertEqual(least_turn("ba" * 500), 1)

    def test_against_all_turns_written_out(self):
        for text in looked_at():
            self.assertEqual(least_turn(text), least_by_writing_out(text), text)

    def test_longer_texts_against_all_turns_written_out(self):
        for name, text in TEXTS.items():
            if len(text) <= 300:
                with self.subTest(name):
                    self.assertEqual(least_turn(text), least_by_writing_out(text))

    def test_a_thousand_letters(self):
        for name, text in THOUSANDS.items():
            turns = [text[place:] + text[:place] for place in range(len(text))]
            with self.subTest(name):
                self.assertEqual(least_turn(text), turns.index(min(turns)))


class Borders(unittest.TestCase):
    def test_written_out(self):
        self.assertEqual(borders(""), [])
        self.assertEqual(borders("a"), [0])
        self.assertEqual(borders("ab"), [0, 0])
        self.assertEqual(borders("aa"), [0, 1])
        self.assertEqual(borders("aaaa"), [0, 1, 2, 3])
        self.assertEqual(borders("abab"), [0, 0, 1, 2])
        self.assertEqual(borders("ababac"), [0, 0, 1, 2, 3, 0])
        self.assertEqual(borders("aabaaab"), [0, 1, 0, 1, 2, 2, 3])
        self.assertEqual(borders("abacabad"), [0, 0, 1, 0, 1, 2, 3, 0])
        self.assertEqual(borders(string.ascii_lowercase), [0] * 26)
        self.assertEqual(borders("a" * 1000), list(range(1000)))
        self.assertEqual(borders("ab" * 500), [0] + list(range(999)))

    def test_each_beginning_against_a_look_at_each_length(self):
        for text in looked_at():
            looked = [border_by_looking(text[:length]) for length in range(1, len(text) + 1)]
            self.assertEqual(borders(text), looked, text)

    def test_longer_texts_against_a_look_at_each_length(self):
        for name, text in TEXTS.items():
            if len(text) <= 300:
                with self.subTest(name):
                    looked = [border_by_looking(text[:length]) for length in range(1, len(text) + 1)]
                    self.assertEqual(borders(text), looked)

    def test_a_thousand_letters(self):
        for name, text in THOUSANDS.items():
            with self.subTest(name):
                found = borders(text)
                self.assertEqual(len(found), len(text))
                for length in (1, 2, 10, 333, 999, 1000):
                    self.assertEqual(found[length - 1], border_by_looking(text[:length]))


class Patterns(unittest.TestCase):
    def test_written_out(self):
        self.assertEqual(pattern_of(""), ("", 0))
        self.assertEqual(pattern_of("a"), ("a", 1))
        self.assertEqual(pattern_of("aa"), ("a", 2))
        self.assertEqual(pattern_of("ab"), ("ab", 1))
        self.assertEqual(pattern_of("abab"), ("ab", 2))
        self.assertEqual(pattern_of("ababab"), ("ab", 3))
        self.assertEqual(pattern_of("abcabc"), ("abc", 2))
        self.assertEqual(pattern_of("aabaab"), ("aab", 2))
        self.assertEqual(pattern_of("banana"), ("banana", 1))
        self.assertEqual(pattern_of("a" * 1000), ("a", 1000))
        self.assertEqual(pattern_of("ab" * 500), ("ab", 500))

    def test_the_shortest_of_several(self):
        self.assertEqual(pattern_of("ab" * 6), ("ab", 6))
        self.assertEqual(pattern_of("a" * 12), ("a", 12))

    def test_a_border_that_makes_no_pattern(self):
        self.assertEqual(pattern_of("ababa"), ("ababa", 1))
        self.assertEqual(pattern_of("aba"), ("aba", 1))
        self.assertEqual(pattern_of("abaab" + "aba"), ("abaababa", 1))

    def test_against_each_beginning_written_again_and_again(self):
        for text in looked_at():
            self.assertEqual(pattern_of(text), pattern_by_writing(text), text)

    def test_roots_written_again_and_again(self):
        for root in (mixed(97, "ab"), mixed(50, "abc"), grown({"a": "ab", "b": "a"}, 89), "a" * 60 + "b"):
            for times in (1, 2, 3, 7):
                self.assertEqual(pattern_of(root * times), (root, times))
                self.assertEqual(pattern_of(root * times + "z"), (root * times + "z", 1))
                self.assertEqual(pattern_of("z" + (root * times)[1:]), ("z" + (root * times)[1:], 1))

    def test_tuples_of_a_text_and_a_whole_number(self):
        for name, text in list(TEXTS.items()) + list(THOUSANDS.items()):
            with self.subTest(name):
                answer = pattern_of(text)
                self.assertIs(type(answer), tuple)
                pattern, times = answer
                self.assertIs(type(times), int)
                self.assertEqual(pattern * times, text)


if __name__ == "__main__":
    unittest.main()
