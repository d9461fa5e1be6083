"""Weights of the places, and how many first places of an order come near to a told weight or to the half."""


def weight_of(weights, lot):
    """Return the weight of the lot."""
    return sum([weights[place] for place in lot])


def weighted_size(weights, order, target):
    """Return the greatest number of first places of the order that weigh together at most the target."""
    size = 0
    left = target
    while size < len(order) and weights[order[size]] <= left:
        left = left - weights[order[size]]
        size += 1
    return size


def even_size(weights, order):
    """Return the least number of first places for which the greater weight of both parts is as small as for any."""
    greater = [max(both) for both in every_cut_weight(weights, order)]
    return greater.index(min(greater)) + 1


def every_cut_weight(weights, order):
    """Return for each number of first places but none and all the tuple of the weights of both parts."""
    return [(weight_of(weights, order[:size]), weight_of(weights, order[size:])) for size in range(1, len(order))]
