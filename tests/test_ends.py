"""Points [1] to [3] and the interface of endbook/ends.py."""

import inspect
import itertools
import os
import string
import subprocess
import sys
import unittest

from endbook.ends import ends, shared_ahead

TOP = os.path.dirname(os.path.dirname(os.path.abspath(__file__)))


def mixed(length, signs):
    """A text without a plain pattern, the same on every run."""
    state = 12345
    letters = []
    for step in range(length):
        state = (state * 1103515245 + 12345) % 2**31
        letters.append(signs[(state >> 16) % len(signs)])
    return "".join(letters)


def grown(rules, length):
    """A text with many repeats: each letter written anew by the rules, again and again."""
    text = "a"
    while len(text) < length:
        text = "".join(rules[letter] for letter in text)
    return text[:length]


TEXTS = {
    "empty": "",
    "one letter": "a",
    "one other letter": "z",
    "two of the same": "aa",
    "rising two": "ab",
    "falling two": "ba",
    "one letter many times": "a" * 300,
    "last letter many times": "z" * 64,
    "two letters in turn": "ab" * 60,
    "two letters in turn, the greater first": "ba" * 60,
    "two letters, golden": grown({"a": "ab", "b": "a"}, 233),
    "two letters, even and odd": grown({"a": "ab", "b": "ba"}, 256),
    "two letters, mixed": mixed(200, "ab"),
    "three letters in turn": "abc" * 40,
    "three letters, grown": grown({"a": "abc", "b": "ac", "c": "b"}, 200),
    "three letters, mixed": mixed(200, "xyz"),
    "one letter and a greater last one": "a" * 100 + "b",
    "one letter and a lesser last one": "b" * 100 + "a",
    "first half twice, short": "abcabc",
    "first half twice": mixed(90, "abc") * 2,
    "first half twice, all letters": mixed(120, string.ascii_lowercase) * 2,
    "forth and back": mixed(80, "ab") + mixed(80, "ab")[::-1],
    "alphabet up": string.ascii_lowercase,
    "alphabet down": string.ascii_lowercase[::-1],
    "alphabet up and down": string.ascii_lowercase + string.ascii_lowercase[::-1],
    "alphabet down and up": string.ascii_lowercase[::-1] + string.ascii_lowercase,
    "banana": "banana",
    "mississippi": "mississippi",
    "a thousand letters": mixed(1000, string.ascii_lowercase),
    "a thousand of two letters": mixed(1000, "ab"),
    "a thousand grown letters": grown({"a": "ab", "b": "a"}, 1000),
    "a thousand times one letter": "a" * 1000,
    "first half twice, a thousand": mixed(500, "ab") * 2,
    "somewhat beyond the bound": mixed(1100, "abc"),
    "one letter somewhat beyond the bound": "q" * 1100,
}


def short_texts():
    """Each text of up to eight letters a, b and of up to five letters a, b, c."""
    for signs, most in (("ab", 8), ("abc", 5)):
        for length in range(most + 1):
            for letters in itertools.product(signs, repeat=length):
                yield "".join(letters)


def comes_ahead(one, other):
    """The order of texts as point [2] words it."""
    for mine, theirs in zip(one, other):
        if mine != theirs:
            return mine < theirs
    return len(one) < len(other)


def sorted_ends(text):
    """The ends themselves, plainly sorted."""
    return sorted([text[place:] for place in range(len(text))])


def places_by_sorting(text):
    """The end tells its place by its length."""
    return [len(text) - len(end) for end in sorted_ends(text)]


def shared_by_counting(text):
    """Sign by sign, on the ends themselves."""
    in_order = sorted_ends(text)
    counts = [0] * len(in_order)
    for rank in range(1, len(in_order)):
        for mine, theirs in zip(in_order[rank - 1], in_order[rank]):
            if mine != theirs:
                break
            counts[rank] += 1
    return counts


class TheOrderOfTheEnds(unittest.TestCase):
    def test_written_out(self):
        self.assertEqual(ends(""), [])
        self.assertEqual(ends("a"), [0])
        self.assertEqual(ends("aaaa"), [3, 2, 1, 0])
        self.assertEqual(ends("ab"), [0, 1])
        self.assertEqual(ends("ba"), [1, 0])
        self.assertEqual(ends("abab"), [2, 0, 3, 1])
        self.assertEqual(ends("banana"), [5, 3, 1, 0, 4, 2])
        self.assertEqual(ends("mississippi"), [10, 7, 4, 1, 0, 9, 8, 6, 3, 5, 2])
        self.assertEqual(ends(string.ascii_lowercase), list(range(26)))
        self.assertEqual(ends(string.ascii_lowercase[::-1]), list(range(25, -1, -1)))

    def test_against_plain_sorting(self):
        for name, text in TEXTS.items():
            with self.subTest(name):
                self.assertEqual(ends(text), places_by_sorting(text))

    def test_all_short_texts_against_plain_sorting(self):
        for text in short_texts():
            self.assertEqual(ends(text), places_by_sorting(text), text)

    def test_each_place_once(self):
        for name, text in TEXTS.items():
            with self.subTest(name):
                self.assertEqual(sorted(ends(text)), list(range(len(text))))

    def test_each_end_comes_ahead_of_the_next_one(self):
        for name, text in TEXTS.items():
            with self.subTest(name):
                order = ends(text)
                for place, following in zip(order, order[1:]):
                    self.assertTrue(comes_ahead(text[place:], text[following:]), (place, following))


class WhatEndsShareWithTheOneAhead(unittest.TestCase):
    def test_written_out(self):
        self.assertEqual(shared_ahead(""), [])
        self.assertEqual(shared_ahead("a"), [0])
        self.assertEqual(shared_ahead("aaaa"), [0, 1, 2, 3])
        self.assertEqual(shared_ahead("ab"), [0, 0])
        self.assertEqual(shared_ahead("abab"), [0, 2, 0, 1])
        self.assertEqual(shared_ahead("banana"), [0, 1, 3, 0, 0, 2])
        self.assertEqual(shared_ahead("mississippi"), [0, 1, 1, 4, 0, 0, 1, 0, 2, 1, 3])
        self.assertEqual(shared_ahead(string.ascii_lowercase), [0] * 26)
        self.assertEqual(shared_ahead("a" * 1000), list(range(1000)))

    def test_against_counting_sign_by_sign(self):
        for name, text in TEXTS.items():
            with self.subTest(name):
                self.assertEqual(shared_ahead(text), shared_by_counting(text))

    def test_all_short_texts_against_counting(self):
        for text in short_texts():
            self.assertEqual(shared_ahead(text), shared_by_counting(text), text)

    def test_nought_for_the_first_and_one_number_an_end(self):
        for name, text in TEXTS.items():
            with self.subTest(name):
                shared = shared_ahead(text)
                self.assertEqual(len(shared), len(text))
                self.assertEqual(shared[:1], [0][: len(text)])


class KindsAndCalls(unittest.TestCase):
    def test_lists_of_whole_numbers(self):
        for name, text in TEXTS.items():
            for asked in (ends, shared_ahead):
                with self.subTest(name, asked=asked.__name__):
                    answer = asked(text)
                    self.assertIs(type(answer), list)
                    self.assertTrue(all(type(number) is int for number in answer))

    def test_the_argument_is_called_text(self):
        for asked in (ends, shared_ahead):
            self.assertEqual(list(inspect.signature(asked).parameters), ["text"])
        self.assertEqual(ends(text="ba"), [1, 0])
        self.assertEqual(shared_ahead(text="aa"), [0, 1])

    def test_asked_twice_they_answer_the_same(self):
        first = [(ends(text), shared_ahead(text)) for text in TEXTS.values()]
        again = [(ends(text), shared_ahead(text)) for text in TEXTS.values()]
        self.assertEqual(first, again)

    def test_an_answer_that_is_changed_changes_no_later_one(self):
        for asked in (ends, shared_ahead):
            for text in ("", "a", "banana"):
                with self.subTest(text, asked=asked.__name__):
                    answer = asked(text)
                    kept = list(answer)
                    answer.append(99)
                    answer.reverse()
                    self.assertEqual(asked(text), kept)

    def test_another_process_answers_the_same(self):
        # Another hash seed is the one chance that Python itself brings in.
        text = TEXTS["three letters, mixed"]
        code = "from endbook.ends import ends, shared_ahead\n" f"print(ends({text!r}), shared_ahead({text!r}))\n"
        for seed in ("1", "2"):
            done = subprocess.run(
                [sys.executable, "-c", code],
                cwd=TOP,
                env=dict(os.environ, PYTHONHASHSEED=seed),
                capture_output=True,
                text=True,
                check=True,
            )
            self.assertEqual(done.stdout, f"{ends(text)} {shared_ahead(text)}\n")


if __name__ == "__main__":
    unittest.main()
