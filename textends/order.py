"""The ends of a text in order, and what neighbours in that order have in common."""


def places_by(keys):
    """The places, those with the smaller key first."""
    return sorted(range(len(keys)), key=lambda place: keys[place])


def ranks_by(keys, order):
    """For each place how many different smaller keys there are."""
    ranks = [0] * len(order)
    rank = 0
    for k in range(1, len(order)):
        if keys[order[k]] != keys[order[k - 1]]:
            rank += 1
        ranks[order[k]] = rank
    return ranks


def pair_keys(ranks, width):
    """For each place one number for two ranks: its own, then that of the place width further on."""
    n = len(ranks)
    keys = []
    for place in range(n):
        # An end that is over comes before one that goes on with any byte, 0 too.
        behind = ranks[place + width] + 1 if place + width < n else 0
        keys.append(ranks[place] * (n + 1) + behind)
    return keys


def order_ends(text):
    """The places of the text's ends, in the order of the ends."""
    order = places_by(text)
    ranks = ranks_by(text, order)
    width = 1
    # Ranks by the first width bytes give those by twice as many, so that even
    # a text of one byte over and over is in order after a few rounds.
    while ranks[order[-1]] < len(text) - 1:
        keys = pair_keys(ranks, width)
        order = places_by(keys)
        ranks = ranks_by(keys, order)
        width = width * 2
    return order


def numbers_in_order(order):
    """For each place which in order, counted from 0, its end is."""
    numbers = [0] * len(order)
    for k in range(len(order)):
        numbers[order[k]] = k
    return numbers


def neighbours_share(text, order, numbers):
    """For each end in order with how many bytes both it and the one before it begin; 0 for the first."""
    n = len(text)
    shared = [0] * n
    length = 0
    for place in range(n):
        k = numbers[place]
        if k == 0:
            length = 0
            continue
        before = order[k - 1]
        while max(place, before) + length < n and text[place + length] == text[before + length]:
            length += 1
        shared[k] = length
        # Without their first byte these two ends still share the others, and stand
        # in the same order: so the next end shares at least that with its neighbour.
        length = max(length - 1, 0)
    return shared
