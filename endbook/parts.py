"""Steady words, and the falling parts of a text.

A text is steady where it has one letter or more and is less than each of its ends but itself.
"""

from endbook.errors import NoWord


def is_steady(text):
    return text != "" and all([text < text[place:] for place in range(1, len(text))])


def falling_parts(text):
    parts = []
    start = 0
    # A part begins just where an end is less than all that begin ahead of it; the least of these is
    # the end with which the last part begins.
    for place in range(1, len(text)):
        if text[place:] < text[start:]:
            parts.append(text[start:place])
            start = place
    if text != "":
        parts.append(text[start:])
    return parts


def halves(text):
    if not is_steady(text):
        raise NoWord("the text is not steady")
    if len(text) == 1:
        return None
    # The last falling part is the least of all ends. A longer end holds it as an end of its own that
    # is less than itself, and so isn't steady.
    end = falling_parts(text[1:])[-1]
    return (text[:len(text) - len(end)], end)


def steady_words(signs, length):
    words = []
    word = signs[:1] if length > 0 else ""
    while word != "":
        words.append(word)
        word = next_steady(signs, length, word)
    return words


# No text between the word and the word written again and again up to the full length is steady: each
# has an end less than itself. The first one beyond, with the last sign risen that can rise, is steady.
# Where no sign can rise there is no next word, which the empty text tells.
def next_steady(signs, length, word):
    filled = (word * length)[:length].rstrip(signs[-1])
    if filled == "":
        return ""
    risen = signs[signs.index(filled[-1]) + 1]
    return filled[:-1] + risen
