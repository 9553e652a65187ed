"""Point [1] and what the interface says over the whole program: names, arguments, kinds, and texts of all sizes."""

import importlib
import inspect
import os
import subprocess
import sys
import time
import unittest

from endbook.ends import ends, shared_ahead
from endbook.errors import EndError
from endbook.parts import falling_parts, halves, is_steady, steady_words
from endbook.turns import borders, is_turn, least_turn, pattern_of, turned
from endbook.words import how_many_words, longest_shared, longest_twice, number_of, places_of, word_at
from samples import TEXTS, THOUSANDS

TOP = os.path.dirname(os.path.dirname(os.path.abspath(__file__)))

# For each module of the interface: each function with its arguments, the kind of its answer, and the
# kinds that it holds (None, where it holds nothing).
INTERFACE = {
    "ends": {
        "ends": (["text"], list, (int,)),
        "shared_ahead": (["text"], list, (int,)),
    },
    "words": {
        "places_of": (["text", "word"], list, (int,)),
        "how_many_words": (["text"], int, None),
        "word_at": (["text", "number"], str, None),
        "number_of": (["text", "word"], int, None),
        "longest_twice": (["text"], tuple, (int, type(None))),
        "longest_shared": (["one", "other"], tuple, (int, type(None))),
    },
    "turns": {
        "least_turn": (["text"], int, None),
        "turned": (["text", "place"], str, None),
        "is_turn": (["one", "other"], bool, None),
        "borders": (["text"], list, (int,)),
        "pattern_of": (["text"], tuple, (str, int)),
    },
    "parts": {
        "is_steady": (["text"], bool, None),
        "falling_parts": (["text"], list, (str,)),
        "halves": (["text"], tuple, (str,)),
        "steady_words": (["signs", "length"], list, (str,)),
    },
}


def handed_in(arguments, text):
    """Values for these arguments, that go well with the text."""
    values = {
        "text": text,
        "one": text,
        "other": text[1:] + text[:1],
        "word": text[:3],
        "number": 0,
        "place": len(text) // 2,
        "signs": "".join(sorted(set(text)))[:3],
        "length": 4,
    }
    return {argument: values[argument] for argument in arguments}


def each_function():
    for module, functions in INTERFACE.items():
        for name, (arguments, kind, held) in functions.items():
            yield getattr(importlib.import_module(f"endbook.{module}"), name), arguments, kind, held


def answer_or_refusal(asked, values):
    try:
        return asked(**values)
    except EndError as e:
        return type(e)


class TheInterface(unittest.TestCase):
    def test_arguments_by_name_and_in_their_order(self):
        for asked, arguments, kind, held in each_function():
            with self.subTest(asked.__name__):
                self.assertEqual(list(inspect.signature(asked).parameters), arguments)
                values = handed_in(arguments, "aabab")
                self.assertEqual(asked(**values), asked(*values.values()))

    def test_nothing_has_to_be_drawn_in_first(self):
        for module in list(INTERFACE) + ["errors"]:
            with self.subTest(module):
                subprocess.run([sys.executable, "-c", f"import endbook.{module}"], cwd=TOP, check=True)

    def test_kinds_of_the_answers(self):
        for name, text in TEXTS.items():
            for asked, arguments, kind, held in each_function():
                with self.subTest(name, asked=asked.__name__):
                    answer = answer_or_refusal(asked, handed_in(arguments, text))
                    if inspect.isclass(answer) or (asked is halves and len(text) == 1):
                        continue
                    self.assertIs(type(answer), kind)
                    if held:
                        self.assertTrue(all(type(value) in held for value in answer))

    def test_an_answer_that_is_changed_changes_no_later_one(self):
        for text in ("", "a", "aabab", "banana"):
            for asked, arguments, kind, held in each_function():
                values = handed_in(arguments, text)
                if kind is list:
                    with self.subTest(text, asked=asked.__name__):
                        answer = asked(**values)
                        kept = list(answer)
                        answer.append("changed")
                        answer.reverse()
                        self.assertEqual(asked(**values), kept)


class TheEmptyText(unittest.TestCase):
    def test_in_every_place_where_a_text_goes_in(self):
        self.assertEqual(ends(""), [])
        self.assertEqual(shared_ahead(""), [])
        self.assertEqual(places_of("", "a"), [])
        self.assertEqual(places_of("a", ""), [])
        self.assertEqual(places_of("", ""), [])
        self.assertEqual(how_many_words(""), 0)
        for asked, values in (
            (word_at, ("", 0)),
            (number_of, ("", "a")),
            (number_of, ("a", "")),
            (number_of, ("", "")),
            (turned, ("", 0)),
            (halves, ("",)),
        ):
            with self.assertRaises(EndError):
                asked(*values)
        self.assertEqual(longest_twice(""), (0, None, None))
        self.assertEqual(longest_shared("", "a"), (0, None, None))
        self.assertEqual(longest_shared("a", ""), (0, None, None))
        self.assertEqual(longest_shared("", ""), (0, None, None))
        self.assertEqual(least_turn(""), 0)
        self.assertIs(is_turn("", ""), True)
        self.assertIs(is_turn("", "a"), False)
        self.assertIs(is_turn("a", ""), False)
        self.assertEqual(borders(""), [])
        self.assertEqual(pattern_of(""), ("", 0))
        self.assertIs(is_steady(""), False)
        self.assertEqual(falling_parts(""), [])
        self.assertEqual(steady_words("", 10), [])


class AThousandLetters(unittest.TestCase):
    def test_every_function_answers_within_seconds(self):
        # The time of this process alone, so that a busy machine makes no difference.
        for name, text in THOUSANDS.items():
            for asked, arguments, kind, held in each_function():
                with self.subTest(name, asked=asked.__name__):
                    begun = time.process_time()
                    answer_or_refusal(asked, handed_in(arguments, text))
                    self.assertLess(time.process_time() - begun, 5)


class NoChance(unittest.TestCase):
    def test_asked_twice_they_answer_the_same(self):
        for name, text in TEXTS.items():
            for asked, arguments, kind, held in each_function():
                with self.subTest(name, asked=asked.__name__):
                    values = handed_in(arguments, text)
                    self.assertEqual(answer_or_refusal(asked, values), answer_or_refusal(asked, values))

    def test_another_process_answers_the_same(self):
        # Another hash seed is the one chance that Python itself brings in.
        text = TEXTS["three letters, mixed"] + "abracadabra"
        asked = [
            f"{function.__module__}.{function.__name__}(**{handed_in(arguments, text)!r})"
            for function, arguments, kind, held in each_function()
            if function is not halves
        ]
        code = "".join(f"import endbook.{module}\n" for module in INTERFACE)
        code += "".join(f"print({call})\n" for call in asked + ["endbook.parts.halves('aabab')"])
        answers = []
        for seed in ("1", "2", "3"):
            done = subprocess.run(
                [sys.executable, "-c", code],
                cwd=TOP,
                env=dict(os.environ, PYTHONHASHSEED=seed),
                capture_output=True,
                text=True,
                check=True,
            )
            answers.append(done.stdout)
        self.assertEqual(answers, answers[:1] * 3)
        self.assertEqual(answers[0].split("\n")[0], str(ends(text)))


if __name__ == "__main__":
    unittest.main()
