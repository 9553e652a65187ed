"""Texts written round a ring: their turns, borders and patterns."""

from endbook.errors import NoPlace


def least_turn(text):
    least = 0
    for place in range(1, len(text)):
        # Only a lesser one is taken, so that of several places that read the same the first one stays.
        if turned(text, place) < turned(text, least):
            least = place
    return least


def turned(text, place):
    # Python's own slices would take a place below nought or beyond the last one for another place.
    if place < 0 or place >= len(text):
        raise NoPlace("the text has no such place")
    return text[place:] + text[:place]


def is_turn(one, other):
    # A text written twice holds each of its turns, and nothing else of its length.
    return len(one) == len(other) and other in one + one


def borders(text):
    lengths = []
    length = 0
    for place, letter in enumerate(text):
        # A border without its last letter is a border of the beginning one letter shorter: so the borders
        # of that one, and theirs in turn, are tried from the longest on.
        while length > 0 and text[length] != letter:
            length = lengths[length - 1]
        # The first letter would meet itself, and a border is shorter than its text.
        if place > 0 and text[length] == letter:
            length += 1
        lengths.append(length)
    return lengths


def pattern_of(text):
    if text == "":
        return ("", 0)
    # The least step by which the text can be moved on and still meet itself. The length of a shorter
    # pattern would be such a step too, and a multiple of the least one.
    step = len(text) - borders(text)[-1]
    if len(text) % step != 0:
        return (text, 1)
    return (text[:step], len(text) // step)
