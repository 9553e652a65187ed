"""All ends of a text in order, and what each shares with the one ahead of it.

The end at a place is the text from that place on; places are numbered from nought.
"""


# No two ends are the same, since their lengths differ: so there is just one order.
def ends(text):
    return sorted(range(len(text)), key=lambda place: text[place:])


def shared_ahead(text):
    order = ends(text)
    shared = []
    for rank, place in enumerate(order):
        if rank == 0:
            shared.append(0)
        else:
            shared.append(shared_signs(text, order[rank - 1], place))
    return shared


def shared_signs(text, one, other):
    # The end that begins later is the shorter one: no more than all of it can be shared.
    most = len(text) - max(one, other)
    count = 0
    while count < most and text[one + count] == text[other + count]:
        count += 1
    return count
