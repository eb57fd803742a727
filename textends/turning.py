"""A text turned by the order of its ends, and got back from that."""

from textends.order import numbers_in_order, places_by

NO_BYTE = -1


def turn_text(text, order):
    """For each end in order the byte before it, of the end at 0 the text's last one."""
    # Of place 0 the index is -1, and there stands the last byte.
    return [text[place - 1] for place in order]


def bytes_before(turned, first):
    """The byte before each end in order, ahead of them all that before the empty end."""
    # turn tells the last byte where the end at 0 stands, which has none before it:
    # it is the one before the empty end, which comes ahead of all others.
    return [turned[first]] + turned[:first] + [NO_BYTE] + turned[first + 1:]


def text_back(turned, first):
    """The text that is turned so; fewer bytes than turned has if there is none."""
    before = bytes_before(turned, first)
    # Ends made longer by the byte before them are in order by that byte, then as
    # they were: equal keys keep their order, and NO_BYTE leads to the empty end.
    longer = numbers_in_order(places_by(before))
    text = []
    number = 0
    # The steps go round, so the whole text is reached from the empty end in any
    # case; but only if all other ends came in between is there such a text.
    while before[number] != NO_BYTE:
        text.append(before[number])
        number = longer[number]
    text.reverse()
    return text
