"""Points [1] to [3] and the interface of endbook/ends.py."""

import string
import unittest

from endbook.ends import ends, shared_ahead
from samples import TEXTS, repeated_texts, short_texts


def comes_ahead(one, other):
    """The order of texts as point [2] words it."""
    for mine, theirs in zip(one, other):
        if mine != theirs:
            return mine < theirs
    return len(one) < len(other)


def sorted_ends(text):
    """The ends themselves, plainly sorted."""
    return sorted([text[place:] for place in range(len(text))])


def places_by_sorting(text):
    """The end tells its place by its length."""
    return [len(text) - len(end) for end in sorted_ends(text)]


def shared_by_counting(text):
    """Sign by sign, on the ends themselves."""
    in_order = sorted_ends(text)
    counts = [0] * len(in_order)
    for rank in range(1, len(in_order)):
        for mine, theirs in zip(in_order[rank - 1], in_order[rank]):
            if mine != theirs:
                break
            counts[rank] += 1
    return counts


class TheOrderOfTheEnds(unittest.TestCase):
    def test_written_out(self):
        self.assertEqual(ends(""), [])
        self.assertEqual(ends("a"), [0])
        self.assertEqual(ends("aaaa"), [3, 2, 1, 0])
        self.assertEqual(ends("ab"), [0, 1])
        self.assertEqual(ends("ba"), [1, 0])
        self.assertEqual(ends("abab"), [2, 0, 3, 1])
        self.assertEqual(ends("banana"), [5, 3, 1, 0, 4, 2])
        self.assertEqual(ends("mississippi"), [10, 7, 4, 1, 0, 9, 8, 6, 3, 5, 2])
        self.assertEqual(ends(string.ascii_lowercase), list(range(26)))
        self.assertEqual(ends(string.ascii_lowercase[::-1]), list(range(25, -1, -1)))

    def test_against_plain_sorting(self):
        for name, text in TEXTS.items():
            with self.subTest(name):
                self.assertEqual(ends(text), places_by_sorting(text))

    def test_all_short_texts_against_plain_sorting(self):
        for text in short_texts():
            self.assertEqual(ends(text), places_by_sorting(text), text)

    def test_repeats_against_plain_sorting(self):
        for text in repeated_texts():
            self.assertEqual(ends(text), places_by_sorting(text), text)

    def test_each_place_once(self):
        for name, text in TEXTS.items():
            with self.subTest(name):
                self.assertEqual(sorted(ends(text)), list(range(len(text))))

    def test_each_end_comes_ahead_of_the_next_one(self):
        for name, text in TEXTS.items():
            with self.subTest(name):
                order = ends(text)
                for place, following in zip(order, order[1:]):
                    self.assertTrue(comes_ahead(text[place:], text[following:]), (place, following))


class WhatEndsShareWithTheOneAhead(unittest.TestCase):
    def test_written_out(self):
        self.assertEqual(shared_ahead(""), [])
        self.assertEqual(shared_ahead("a"), [0])
        self.assertEqual(shared_ahead("aaaa"), [0, 1, 2, 3])
        self.assertEqual(shared_ahead("ab"), [0, 0])
        self.assertEqual(shared_ahead("abab"), [0, 2, 0, 1])
        self.assertEqual(shared_ahead("banana"), [0, 1, 3, 0, 0, 2])
        self.assertEqual(shared_ahead("mississippi"), [0, 1, 1, 4, 0, 0, 1, 0, 2, 1, 3])
        self.assertEqual(shared_ahead(string.ascii_lowercase), [0] * 26)
        self.assertEqual(shared_ahead("a" * 1000), list(range(1000)))

    def test_against_counting_sign_by_sign(self):
        for name, text in TEXTS.items():
            with self.subTest(name):
                self.assertEqual(shared_ahead(text), shared_by_counting(text))

    def test_all_short_texts_against_counting(self):
        for text in short_texts():
            self.assertEqual(shared_ahead(text), shared_by_counting(text), text)

    def test_repeats_against_counting(self):
        for text in repeated_texts():
            self.assertEqual(shared_ahead(text), shared_by_counting(text), text)

    def test_nought_for_the_first_and_one_number_an_end(self):
        for name, text in TEXTS.items():
            with self.subTest(name):
                shared = shared_ahead(text)
                self.assertEqual(len(shared), len(text))
                self.assertEqual(shared[:1], [0][: len(text)])


if __name__ == "__main__":
    unittest.main()
