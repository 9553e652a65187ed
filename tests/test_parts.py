"""Points [10] to [13] and the interface of endbook/parts.py."""

import itertools
import string
import unittest

from endbook.errors import EndError, NoWord
from endbook.parts import falling_parts, halves, is_steady, steady_words
from samples import TEXTS, THOUSANDS, refused_as, repeated_texts, short_texts

KINDS = (NoWord, EndError, ValueError)


def steady_by_comparing(text):
    """Less than each end but itself, and not empty."""
    if text == "":
        return False
    for place in range(1, len(text)):
        if not text < text[place:]:
            return False
    return True


def ways_to_part(text):
    """All ways to cut the text into parts of one letter or more."""
    if text == "":
        yield []
    for length in range(1, len(text) + 1):
        for others in ways_to_part(text[length:]):
            yield [text[:length]] + others


def falls(parts):
    """Steady words, of which none is less than the next one."""
    return all(steady_by_comparing(part) for part in parts) and not any(
        part < following for part, following in zip(parts, parts[1:])
    )


def halves_by_looking(text):
    """The first end but the text itself that is steady is the longest one."""
    for place in range(1, len(text)):
        if steady_by_comparing(text[place:]):
            return (text[:place], text[place:])
    return None


def steady_by_trying(signs, length):
    """All texts up to that length, written out."""
    found = []
    for letters in range(1, length + 1):
        found += ["".join(letter) for letter in itertools.product(signs, repeat=letters)]
    return sorted(text for text in found if steady_by_comparing(text))


def looked_at():
    yield from short_texts()
    yield from repeated_texts()


class SteadyTexts(unittest.TestCase):
    def test_written_out(self):
        for text in ("a", "z", "ab", "aab", "abb", "aabb", "abac", "aabab", "abc", string.ascii_lowercase):
            self.assertIs(is_steady(text), True, text)
        for text in ("", "aa", "ba", "aba", "abab", "abaab", "cab", "aabaa", "abcabc", "banana"):
            self.assertIs(is_steady(text), False, text)

    def test_the_empty_text_is_not(self):
        self.assertIs(is_steady(""), False)

    def test_each_single_letter_is(self):
        for letter in string.ascii_lowercase:
            self.assertIs(is_steady(letter), True)

    def test_against_all_ends_compared(self):
        for text in looked_at():
            self.assertIs(is_steady(text), steady_by_comparing(text), text)

    def test_longer_texts_against_all_ends_compared(self):
        for name, text in list(TEXTS.items()) + list(THOUSANDS.items()):
            with self.subTest(name):
                self.assertIs(is_steady(text), steady_by_comparing(text))

    def test_a_thousand_letters(self):
        self.assertIs(is_steady("a" * 999 + "b"), True)
        self.assertIs(is_steady("a" + "b" * 999), True)
        self.assertIs(is_steady("a" * 1000), False)
        self.assertIs(is_steady("ab" * 500), False)
        self.assertIs(is_steady("ab" * 500 + "b"), True)
        self.assertIs(is_steady("ab" * 500 + "a"), False)


class FallingParts(unittest.TestCase):
    def test_written_out(self):
        self.assertEqual(falling_parts(""), [])
        self.assertEqual(falling_parts("a"), ["a"])
        self.assertEqual(falling_parts("ab"), ["ab"])
        self.assertEqual(falling_parts("ba"), ["b", "a"])
        self.assertEqual(falling_parts("banana"), ["b", "an", "an", "a"])
        self.assertEqual(falling_parts("mississippi"), ["m", "iss", "iss", "ipp", "i"])
        self.assertEqual(falling_parts(string.ascii_lowercase), [string.ascii_lowercase])
        self.assertEqual(falling_parts(string.ascii_lowercase[::-1]), list(string.ascii_lowercase[::-1]))

    def test_equal_parts_behind_one_another(self):
        self.assertEqual(falling_parts("aaaa"), ["a"] * 4)
        self.assertEqual(falling_parts("ababab"), ["ab"] * 3)
        self.assertEqual(falling_parts("aabaabaab"), ["aab"] * 3)
        self.assertEqual(falling_parts("bbaa"), ["b", "b", "a", "a"])
        self.assertEqual(falling_parts("a" * 1000), ["a"] * 1000)
        self.assertEqual(falling_parts("ab" * 500), ["ab"] * 500)

    def test_the_one_way_of_all_ways(self):
        for text in looked_at():
            if len(text) <= 8:
                ways = [parts for parts in ways_to_part(text) if falls(parts)]
                self.assertEqual(ways, [falling_parts(text)], text)

    def test_all_of_the_text_in_parts_that_fall(self):
        for text in list(looked_at()) + list(TEXTS.values()) + list(THOUSANDS.values()):
            parts = falling_parts(text)
            self.assertIs(type(parts), list)
            self.assertEqual("".join(parts), text)
            self.assertTrue(falls(parts), text)

    def test_steady_words_from_the_greatest_to_the_least_are_just_their_parts(self):
        words = steady_by_trying("ab", 5)
        for one, other, third in itertools.combinations_with_replacement(words[::-1], 3):
            self.assertEqual(falling_parts(one + other + third), [one, other, third])
        for signs, length in (("ab", 7), ("abc", 4), ("xyz", 3)):
            words = steady_by_trying(signs, length)[::-1]
            self.assertEqual(falling_parts("".join(words)), words)
            self.assertEqual(falling_parts("".join(word * 2 for word in words)), sorted(words * 2, reverse=True))

    def test_a_steady_text_is_its_own_part(self):
        for text in looked_at():
            self.assertEqual(falling_parts(text) == [text], steady_by_comparing(text), text)


class Halves(unittest.TestCase):
    def test_written_out(self):
        self.assertEqual(halves("ab"), ("a", "b"))
        self.assertEqual(halves("aab"), ("a", "ab"))
        self.assertEqual(halves("abb"), ("ab", "b"))
        self.assertEqual(halves("aabb"), ("a", "abb"))
        self.assertEqual(halves("aabab"), ("aab", "ab"))
        self.assertEqual(halves("abac"), ("ab", "ac"))
        self.assertEqual(halves("abcac"), ("abc", "ac"))
        self.assertEqual(halves(string.ascii_lowercase), ("a", string.ascii_lowercase[1:]))

    def test_none_for_one_letter(self):
        for letter in string.ascii_lowercase:
            self.assertIsNone(halves(letter))

    def test_the_empty_text_is_refused(self):
        refused_as(self, KINDS, halves, "")

    def test_each_text_that_is_not_steady_is_refused(self):
        for text in looked_at():
            if not steady_by_comparing(text):
                refused_as(self, KINDS, halves, text)
        for name, text in TEXTS.items():
            if not steady_by_comparing(text):
                with self.subTest(name):
                    refused_as(self, KINDS, halves, text)

    def test_against_a_look_at_each_end(self):
        steady = steady_by_trying("ab", 10) + steady_by_trying("abc", 7) + list(repeated_texts())
        for text in steady:
            if steady_by_comparing(text):
                self.assertEqual(halves(text), halves_by_looking(text), text)

    def test_both_halves_are_steady_and_together_the_text(self):
        for text in steady_by_trying("abc", 6):
            if len(text) > 1:
                answer = halves(text)
                self.assertIs(type(answer), tuple)
                ahead, end = answer
                self.assertEqual(ahead + end, text)
                self.assertTrue(steady_by_comparing(ahead) and steady_by_comparing(end), text)

    def test_a_thousand_letters(self):
        self.assertEqual(halves("a" * 999 + "b"), ("a", "a" * 998 + "b"))
        self.assertEqual(halves("a" + "b" * 999), ("a" + "b" * 998, "b"))
        self.assertEqual(halves("ab" * 499 + "b"), ("ab", "ab" * 498 + "b"))
        self.assertEqual(halves("ab" * 499 + "ac"), ("ab", "ab" * 498 + "ac"))
        for text in ("a" * 1000, "ab" * 500, "b" * 999 + "a"):
            refused_as(self, KINDS, halves, text)


class AllSteadyWords(unittest.TestCase):
    def test_written_out(self):
        self.assertEqual(steady_words("ab", 1), ["a", "b"])
        self.assertEqual(steady_words("ab", 2), ["a", "ab", "b"])
        self.assertEqual(steady_words("ab", 3), ["a", "aab", "ab", "abb", "b"])
        self.assertEqual(steady_words("ab", 4), ["a", "aaab", "aab", "aabb", "ab", "abb", "abbb", "b"])
        self.assertEqual(steady_words("xz", 2), ["x", "xz", "z"])
        self.assertEqual(steady_words("acz", 2), ["a", "ac", "az", "c", "cz", "z"])

    def test_none_for_a_length_below_one(self):
        for signs in ("", "a", "ab", "xyz", string.ascii_lowercase):
            for length in (0, -1, -2, -10, -(10**20), -(10**99)):
                with self.subTest(signs, length=length):
                    self.assertEqual(steady_words(signs, length), [])

    def test_none_without_signs(self):
        for length in range(-2, 11):
            self.assertEqual(steady_words("", length), [])

    def test_one_sign(self):
        for sign in string.ascii_lowercase:
            for length in range(1, 13):
                self.assertEqual(steady_words(sign, length), [sign])

    def test_against_all_texts_tried(self):
        for signs, most in (("ab", 12), ("xz", 10), ("abc", 8), ("bmz", 7), ("abcd", 5), ("adghz", 4)):
            for length in range(1, most + 1):
                with self.subTest(signs, length=length):
                    self.assertEqual(steady_words(signs, length), steady_by_trying(signs, length))

    def test_all_letters(self):
        letters = string.ascii_lowercase
        self.assertEqual(steady_words(letters, 1), list(letters))
        self.assertEqual(steady_words(letters, 2), steady_by_trying(letters, 2))
        self.assertEqual(steady_words(letters, 3), steady_by_trying(letters, 3))

    def test_three_signs_of_ten_letters(self):
        words = steady_words("abc", 10)
        # Of the lengths one to ten there are 3, 3, 8, 18, 48, 116, 312, 810, 2184 and 5880.
        self.assertEqual(len(words), 9382)
        self.assertEqual(words, sorted(set(words)))
        self.assertTrue(all(steady_by_comparing(word) and len(word) <= 10 for word in words))


if __name__ == "__main__":
    unittest.main()
