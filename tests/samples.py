"""Texts and numbers that the tests share."""

import itertools
import string


def mixed(length, signs):
    """A text without a plain pattern, the same on every run."""
    state = 12345
    letters = []
    for step in range(length):
        state = (state * 1103515245 + 12345) % 2**31
        letters.append(signs[(state >> 16) % len(signs)])
    return "".join(letters)


def grown(rules, length):
    """A text with many repeats: each letter written anew by the rules, again and again."""
    text = "a"
    while len(text) < length:
        text = "".join(rules[letter] for letter in text)
    return text[:length]


TEXTS = {
    "empty": "",
    "one letter": "a",
    "one other letter": "z",
    "two of the same": "aa",
    "rising two": "ab",
    "falling two": "ba",
    "one letter many times": "a" * 300,
    "last letter many times": "z" * 64,
    "two letters in turn": "ab" * 60,
    "two letters in turn, the greater first": "ba" * 60,
    "two letters, golden": grown({"a": "ab", "b": "a"}, 233),
    "two letters, even and odd": grown({"a": "ab", "b": "ba"}, 256),
    "two letters, mixed": mixed(200, "ab"),
    "three letters in turn": "abc" * 40,
    "three letters, grown": grown({"a": "abc", "b": "ac", "c": "b"}, 200),
    "three letters, mixed": mixed(200, "xyz"),
    "one letter and a greater last one": "a" * 100 + "b",
    "one letter and a lesser last one": "b" * 100 + "a",
    "first half twice, short": "abcabc",
    "first half twice": mixed(90, "abc") * 2,
    "first half twice, all letters": mixed(120, string.ascii_lowercase) * 2,
    "forth and back": mixed(80, "ab") + mixed(80, "ab")[::-1],
    "alphabet up": string.ascii_lowercase,
    "alphabet down": string.ascii_lowercase[::-1],
    "alphabet up and down": string.ascii_lowercase + string.ascii_lowercase[::-1],
    "alphabet down and up": string.ascii_lowercase[::-1] + string.ascii_lowercase,
    "banana": "banana",
    "mississippi": "mississippi",
    "a thousand letters": mixed(1000, string.ascii_lowercase),
    "a thousand of two letters": mixed(1000, "ab"),
    "a thousand grown letters": grown({"a": "ab", "b": "a"}, 1000),
    "a thousand times one letter": "a" * 1000,
    "first half twice, a thousand": mixed(500, "ab") * 2,
    "somewhat beyond the bound": mixed(1100, "abc"),
    "one letter somewhat beyond the bound": "q" * 1100,
}

THOUSANDS = {
    "one letter": "a" * 1000,
    "two letters": mixed(1000, "ab"),
    "two letters, golden": grown({"a": "ab", "b": "a"}, 1000),
    "two letters in turn": "ba" * 500,
    "first half twice": mixed(500, "ab") * 2,
    "all letters": mixed(1000, string.ascii_lowercase),
    "all letters rising, again and again": (string.ascii_lowercase * 40)[:1000],
    "steady, one greater letter last": "a" * 999 + "b",
    "steady, one lesser letter first": "a" + "b" * 999,
    "falling, one lesser letter last": "b" * 999 + "a",
    "somewhat beyond a thousand": mixed(1100, "abc"),
}

# Of twenty-one and of a hundred figures, up and down, and somewhat beyond that.
GREAT_NUMBERS = [
    sign * number for number in (10**20, 10**21 - 1, 10**99, 10**100 - 1, 10**120) for sign in (1, -1)
]


def short_texts():
    """Each text of up to ten letters a, of up to eight letters a, b and of up to five letters a, b, c."""
    for signs, most in (("a", 10), ("ab", 8), ("abc", 5)):
        for length in range(most + 1):
            for letters in itertools.product(signs, repeat=length):
                yield "".join(letters)


def repeated_texts():
    """Texts written once, twice and three times; each also with one letter changed and with one put behind."""
    for root in ("a", "ab", "ba", "aab", "abb", "abaab", "cab", mixed(6, "ab"), mixed(9, "xyz")):
        for times in (1, 2, 3):
            text = root * times
            yield text
            for letter in "abz":
                yield text + letter
                for place in range(len(text)):
                    yield text[:place] + letter + text[place + 1 :]


def middling_texts():
    """The texts of TEXTS that can be looked at in all their words."""
    return {name: text for name, text in TEXTS.items() if len(text) <= 130}


def refused_as(case, kinds, asked, *arguments):
    """The call is refused with the first kind itself, and each of the kinds takes it."""
    for kind in kinds:
        with case.assertRaises(kind) as taken:
            asked(*arguments)
        case.assertIs(type(taken.exception), kinds[0])
