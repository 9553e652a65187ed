"""Points [4] to [7] and the interface of endbook/words.py."""

import string
import unittest

from endbook.errors import EndError, NoWord
from endbook.words import how_many_words, longest_shared, longest_twice, number_of, places_of, word_at
from samples import GREAT_NUMBERS, TEXTS, THOUSANDS, middling_texts, mixed, refused_as, repeated_texts, short_texts

KINDS = (NoWord, EndError, ValueError)


def places_by_looking(text, word):
    """Each place looked at, sign by sign."""
    return [
        place
        for place in range(len(text))
        if word and [text[place + step : place + step + 1] for step in range(len(word))] == list(word)
    ]


def words_with_places(text):
    """Each different word, put together from a first and a last letter, with its places."""
    found = {}
    for place in range(len(text)):
        for behind in range(place + 1, len(text) + 1):
            found.setdefault(text[place:behind], []).append(place)
    return found


def sorted_words(text):
    return sorted(words_with_places(text))


def looked_at():
    """The texts whose words are all put together here."""
    yield from short_texts()
    yield from repeated_texts()
    yield from middling_texts().values()


class WhereAWordStands(unittest.TestCase):
    def test_written_out(self):
        self.assertEqual(places_of("banana", "a"), [1, 3, 5])
        self.assertEqual(places_of("banana", "ana"), [1, 3])
        self.assertEqual(places_of("banana", "nan"), [2])
        self.assertEqual(places_of("banana", "banana"), [0])
        self.assertEqual(places_of("banana", "x"), [])
        self.assertEqual(places_of("banana", "aa"), [])
        self.assertEqual(places_of("mississippi", "issi"), [1, 4])

    def test_places_may_overlap(self):
        self.assertEqual(places_of("aaaa", "aa"), [0, 1, 2])
        self.assertEqual(places_of("ababa", "aba"), [0, 2])
        self.assertEqual(places_of("a" * 1000, "a" * 400), list(range(601)))

    def test_the_empty_text(self):
        for text in list(TEXTS.values()) + ["a", "aa", "abc"]:
            self.assertEqual(places_of(text, ""), [])
        self.assertEqual(places_of("", "a"), [])
        self.assertEqual(places_of("", "abc"), [])
        self.assertEqual(places_of("", ""), [])

    def test_the_text_itself_and_one_letter_more(self):
        for name, text in TEXTS.items():
            with self.subTest(name):
                self.assertEqual(places_of(text, text), [0] if text else [])
                for letter in "abz":
                    self.assertEqual(places_of(text, text + letter), [])
                    self.assertEqual(places_of(text, letter + text), [])

    def test_a_word_is_not_read_on_round_the_end(self):
        self.assertEqual(places_of("ab", "ba"), [])
        self.assertEqual(places_of("abc", "ca"), [])

    def test_each_word_against_a_look_at_each_place(self):
        for text in short_texts():
            for word in words_with_places(text):
                self.assertEqual(places_of(text, word), places_by_looking(text, word), (text, word))

    def test_short_texts_as_words_whether_they_stand_there_or_not(self):
        words = [word for word in short_texts() if len(word) <= 4]
        for text in ("", "a", "ab", "aaaa", "abab", "abaababa", "aabbaabb", "abcabcab", "cabacbc"):
            for word in words:
                self.assertEqual(places_of(text, word), places_by_looking(text, word), (text, word))

    def test_repeats_against_words_put_together(self):
        for text in repeated_texts():
            for word, places in words_with_places(text).items():
                self.assertEqual(places_of(text, word), places, (text, word))


class HowManyWords(unittest.TestCase):
    def test_written_out(self):
        self.assertEqual(how_many_words(""), 0)
        self.assertEqual(how_many_words("a"), 1)
        self.assertEqual(how_many_words("aa"), 2)
        self.assertEqual(how_many_words("ab"), 3)
        self.assertEqual(how_many_words("abab"), 7)
        self.assertEqual(how_many_words("banana"), 15)
        self.assertEqual(how_many_words("mississippi"), 53)
        self.assertEqual(how_many_words(string.ascii_lowercase), 26 * 27 // 2)
        self.assertEqual(how_many_words("a" * 1000), 1000)
        self.assertEqual(how_many_words("a" * 999 + "b"), 999 + 1000)
        # Of each length the words begin with a or with b; the text itself with a alone.
        self.assertEqual(how_many_words("ab" * 500), 1999)

    def test_against_all_words_put_together(self):
        for text in looked_at():
            self.assertEqual(how_many_words(text), len(words_with_places(text)), text)

    def test_longer_ones_against_all_words_put_together(self):
        for name, text in TEXTS.items():
            if len(text) <= 300:
                with self.subTest(name):
                    self.assertEqual(how_many_words(text), len(words_with_places(text)))


class TheNumbersOfWords(unittest.TestCase):
    def test_written_out(self):
        words = "a an ana anan anana b ba ban bana banan banana n na nan nana".split()
        self.assertEqual([word_at("banana", number) for number in range(15)], words)
        self.assertEqual([number_of("banana", word) for word in words], list(range(15)))
        self.assertEqual(word_at("z", 0), "z")
        self.assertEqual(number_of("z", "z"), 0)

    def test_all_numbers_of_short_texts(self):
        for text in short_texts():
            for number, word in enumerate(sorted_words(text)):
                self.assertEqual(word_at(text, number), word, (text, number))
                self.assertEqual(number_of(text, word), number, (text, word))

    def test_all_numbers_of_some_repeats(self):
        for text in list(repeated_texts())[::4]:
            for number, word in enumerate(sorted_words(text)):
                self.assertEqual(word_at(text, number), word, (text, number))
                self.assertEqual(number_of(text, word), number, (text, word))

    def test_some_numbers_of_longer_texts(self):
        for name, text in TEXTS.items():
            if len(text) > 300:
                continue
            words = sorted_words(text)
            with self.subTest(name):
                for number in {0, 1, len(words) // 3, len(words) // 2, len(words) - 2, len(words) - 1}:
                    if 0 <= number < len(words):
                        self.assertEqual(word_at(text, number), words[number])
                        self.assertEqual(number_of(text, words[number]), number)

    def test_a_thousand_letters_there_and_back(self):
        for name, text in THOUSANDS.items():
            total = how_many_words(text)
            with self.subTest(name):
                for number in (1, total // 2, total - 2):
                    word = word_at(text, number)
                    self.assertIn(word, text)
                    self.assertEqual(number_of(text, word), number)
                self.assertEqual(word_at(text, 0), min(text))
                self.assertEqual(word_at(text, total - 1), max(text[place:] for place in range(len(text))))

    def test_the_text_itself(self):
        self.assertEqual(number_of("a" * 1000, "a" * 1000), 999)
        self.assertEqual(word_at("a" * 1000, 999), "a" * 1000)
        for text in repeated_texts():
            self.assertEqual(number_of(text, text), sorted_words(text).index(text), text)

    def test_numbers_below_nought_are_refused(self):
        for text in ("", "a", "ab", "aaa", "banana", "a" * 1000):
            for number in (-1, -2, -len(text) - 1, -how_many_words(text), -how_many_words(text) - 1):
                with self.subTest(text[:9], number=number):
                    if number < 0:
                        refused_as(self, KINDS, word_at, text, number)

    def test_numbers_from_the_count_on_are_refused(self):
        for text in ("", "a", "ab", "aaa", "banana", "mississippi", "a" * 1000, TEXTS["first half twice"]):
            total = how_many_words(text)
            for number in (total, total + 1, 2 * total + 1, len(text) * (len(text) + 1) // 2 + 1):
                with self.subTest(text[:9], number=number):
                    refused_as(self, KINDS, word_at, text, number)

    def test_the_first_number_beyond_of_every_text_is_refused(self):
        for text in looked_at():
            refused_as(self, KINDS[:1], word_at, text, len(words_with_places(text)))
            refused_as(self, KINDS[:1], word_at, text, -1)

    def test_great_numbers_are_refused(self):
        for text in ("", "a", "banana", "ab" * 500):
            for number in GREAT_NUMBERS:
                with self.subTest(text[:9], number=number):
                    refused_as(self, KINDS, word_at, text, number)

    def test_the_empty_text_has_no_number(self):
        for name, text in TEXTS.items():
            with self.subTest(name):
                refused_as(self, KINDS, number_of, text, "")

    def test_texts_that_are_no_words_are_refused(self):
        refused_as(self, KINDS, number_of, "", "a")
        refused_as(self, KINDS, number_of, "", "abc")
        refused_as(self, KINDS, number_of, "a", "b")
        refused_as(self, KINDS, number_of, "b", "a")
        refused_as(self, KINDS, number_of, "ab", "ba")
        refused_as(self, KINDS, number_of, "banana", "nab")
        refused_as(self, KINDS, number_of, "banana", "bananas")
        refused_as(self, KINDS, number_of, "banana", "anna")

    def test_a_word_one_letter_longer_than_the_text_is_refused(self):
        for name, text in TEXTS.items():
            with self.subTest(name):
                for letter in "az":
                    refused_as(self, KINDS, number_of, text, text + letter)
                    refused_as(self, KINDS, number_of, text, letter + text)

    def test_every_short_text_that_is_no_word_is_refused(self):
        words = [word for word in short_texts() if len(word) <= 4]
        for text in ("", "a", "ab", "aaaa", "abab", "abaababa", "aabbaabb", "abcabcab"):
            for word in words:
                if word == "" or word not in text:
                    refused_as(self, KINDS[:1], number_of, text, word)


class ALongestWordThatStandsTwice(unittest.TestCase):
    def holds(self, text, length):
        """The answer names a word of this length at two different places, the lesser first."""
        answer = longest_twice(text)
        self.assertIs(type(answer), tuple)
        if length == 0:
            self.assertEqual(answer, (0, None, None), text)
            return
        told, lesser, greater = answer
        self.assertEqual(told, length, text)
        self.assertTrue(0 <= lesser < greater <= len(text) - length, (text, answer))
        self.assertEqual(text[lesser : lesser + length], text[greater : greater + length], text)

    def test_written_out(self):
        self.assertEqual(longest_twice("banana"), (3, 1, 3))
        self.assertEqual(longest_twice("mississippi"), (4, 1, 4))
        self.assertEqual(longest_twice("aa"), (1, 0, 1))
        self.assertEqual(longest_twice("xabcyabcz"), (3, 1, 5))
        self.assertEqual(longest_twice("a" * 1000), (999, 0, 1))
        self.assertEqual(longest_twice("abcabc"), (3, 0, 3))

    def test_none_where_no_letter_stands_twice(self):
        for text in ("", "a", "z", "ab", "ba", "cab", string.ascii_lowercase, string.ascii_lowercase[::-1]):
            self.assertEqual(longest_twice(text), (0, None, None))

    def test_the_lesser_place_first_whichever_end_is_the_lesser(self):
        self.assertEqual(longest_twice("axya"), (1, 0, 3))
        self.assertEqual(longest_twice("abzaby"), (2, 0, 3))
        self.assertEqual(longest_twice("abyabz"), (2, 0, 3))

    def test_against_all_words_put_together(self):
        for text in looked_at():
            twice = [len(word) for word, places in words_with_places(text).items() if len(places) > 1]
            self.holds(text, max(twice, default=0))

    def test_texts_written_twice(self):
        for root in (mixed(90, "abc"), mixed(120, string.ascii_lowercase), mixed(500, string.ascii_lowercase)):
            self.holds(root * 2, len(root))
            self.holds(root * 3, 2 * len(root))

    def test_a_thousand_letters(self):
        self.holds("ab" * 500, 998)
        self.holds("a" * 999 + "b", 998)
        self.holds("a" + "b" * 999, 998)
        self.holds(mixed(500, "ab") + "z" + mixed(500, "ab"), 500)


class ALongestSharedWord(unittest.TestCase):
    def holds(self, one, other, length):
        """The answer names a word of this length, at a place in the one and a place in the other."""
        answer = longest_shared(one, other)
        self.assertIs(type(answer), tuple)
        if length == 0:
            self.assertEqual(answer, (0, None, None), (one, other))
            return
        told, place, there = answer
        self.assertEqual(told, length, (one, other))
        self.assertTrue(0 <= place <= len(one) - length, (one, other, answer))
        self.assertTrue(0 <= there <= len(other) - length, (one, other, answer))
        self.assertEqual(one[place : place + length], other[there : there + length], (one, other))

    def holds_by_words(self, one, other):
        common = words_with_places(one).keys() & words_with_places(other).keys()
        self.holds(one, other, max([len(word) for word in common], default=0))

    def test_written_out(self):
        self.assertEqual(longest_shared("xbanana", "cabany"), (3, 1, 2))
        self.assertEqual(longest_shared("cabany", "xbanana"), (3, 2, 1))
        self.assertEqual(longest_shared("a", "a"), (1, 0, 0))
        self.assertEqual(longest_shared("ab", "ca"), (1, 0, 1))
        self.assertEqual(longest_shared("abc", "zabcz"), (3, 0, 1))
        self.assertEqual(longest_shared("zabcz", "abc"), (3, 1, 0))

    def test_none_where_they_have_no_letter_in_common(self):
        for one, other in (("", ""), ("", "a"), ("a", ""), ("a", "b"), ("abab", "cdcd"), ("a" * 1000, "b" * 1000)):
            self.assertEqual(longest_shared(one, other), (0, None, None))
            self.assertEqual(longest_shared(other, one), (0, None, None))

    def test_what_stands_twice_in_one_text_alone_is_not_shared(self):
        self.holds("abcabcabc", "xyzc", 1)
        self.holds("xyzc", "abcabcabc", 1)
        self.assertEqual(longest_shared("abcabc", "xyxy"), (0, None, None))
        self.assertEqual(longest_shared("xyxy", "abcabc"), (0, None, None))

    def test_a_word_does_not_reach_from_the_one_into_the_other(self):
        self.assertEqual(longest_shared("xa", "bab")[0], 1)
        self.holds("ab", "cdabcd", 2)
        self.holds("cdabcd", "ab", 2)
        self.holds("aaa", "aaaaaa", 3)
        self.holds("aaaaaa", "aaa", 3)

    def test_a_text_with_itself_and_with_its_beginning_and_end(self):
        for name, text in TEXTS.items():
            half = len(text) // 2
            with self.subTest(name):
                self.holds(text, text, len(text))
                self.holds(text, text[:half], half)
                self.holds(text[half:], text, len(text) - half)

    def test_pairs_of_short_texts(self):
        texts = sorted({text for text in short_texts() if len(text) <= 3} | {"abab", "baab", "cabca", "aaaa", "bbbab"})
        for one in texts:
            for other in texts:
                self.holds_by_words(one, other)

    def test_repeats_with_one_another(self):
        texts = list(repeated_texts())[::9]
        for rank, one in enumerate(texts):
            for other in texts[rank % 5 :: 5]:
                self.holds_by_words(one, other)

    def test_middling_texts(self):
        texts = list(middling_texts().values())
        for one, other in zip(texts, texts[1:] + texts[:1]):
            self.holds_by_words(one, other)
            self.holds_by_words(other, one)

    def test_a_thousand_letters(self):
        core = mixed(400, "ab")
        self.holds("x" * 300 + core + "y" * 300, "z" * 600 + core, 400)
        self.holds("z" * 600 + core, core + "x" * 600, 400)
        self.holds("a" * 1000, "a" * 999 + "b", 999)
        self.holds("ab" * 500, "ba" * 500, 999)


if __name__ == "__main__":
    unittest.main()
