"""The words in a text: where they stand, their order, and the longest that stand twice or in two texts.

A word in a text is a text of one letter or more that stands in it.
"""

from endbook.ends import ends, shared_ahead
from endbook.errors import NoWord


def places_of(text, word):
    # The empty text would be found at each place, and yet it is no word.
    if word == "":
        return []
    return [place for place in range(len(text)) if text.startswith(word, place)]


# Every word begins an end. Of an end's beginnings, just those longer than what it shares with the end
# ahead begin no end further ahead. So a walk along the ends meets each word once, and in their order.
def ends_and_shared(text):
    return list(zip(ends(text), shared_ahead(text)))


def how_many_words(text):
    return sum([len(text) - place - shared for place, shared in ends_and_shared(text)])


def word_at(text, number):
    if number < 0:
        raise NoWord("no word has a number below nought")
    ahead = 0
    for place, shared in ends_and_shared(text):
        fresh = len(text) - place - shared
        if number < ahead + fresh:
            return text[place:place + shared + 1 + number - ahead]
        ahead += fresh
    raise NoWord("the text has fewer words than that")


def number_of(text, word):
    if word == "":
        raise NoWord("the empty text is no word")
    ahead = 0
    for place, shared in ends_and_shared(text):
        if text.startswith(word, place):
            return ahead + len(word) - shared - 1
        ahead += len(text) - place - shared
    raise NoWord("no such word stands in the text")


def longest_twice(text):
    longest = (0, None, None)
    for shared, lesser, greater in neighbours(text):
        if shared > longest[0]:
            longest = (shared, lesser, greater)
    return longest


def longest_shared(one, other):
    # The blank is no letter: what two ends share can't reach over it.
    middle = len(one)
    longest = (0, None, None)
    for shared, lesser, greater in neighbours(one + " " + other):
        if lesser < middle and middle < greater and shared > longest[0]:
            longest = (shared, lesser, greater - middle - 1)
    return longest


# Two ends share no more than any two neighbours between them do: so neighbours are enough to look at.
def neighbours(text):
    order = ends(text)
    found = []
    for before, place, shared in zip(order, order[1:], shared_ahead(text)[1:]):
        found.append((shared, min(before, place), max(before, place)))
    return found
