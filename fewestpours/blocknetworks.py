"""Networks that are run with blocks, and networks that sort."""

from fewestpours.errors import Refused

# Up to so many places no network that sorts has fewer pairs than the merging one: 0, 1, 3, 5 and 9 are the least.
MOST_LEAST_PLACES = 5


def run_blocks(network, blocks):
    """The blocks behind the network: each pair puts the lesser half of both blocks' words into its first block."""
    held = [sorted(block) for block in blocks]
    for i, j in network:
        words = sorted(held[i] + held[j])
        held[i] = words[:len(held[i])]
        held[j] = words[len(held[i]):]
    return tuple([tuple(words) for words in held])


def merging_network(n):
    """Some network that sorts n places by merging.

    From round to round step is halved; behind a round all places that are alike modulo step are in order among
    themselves. A round merges two such rows into one: it puts neighbours in order, one of either row, then those
    that are farther apart, ever less far. With fewer places than a power of 2 the pairs beyond are left out.
    """
    top = 1
    while top * 2 < n:
        top = top * 2
    pairs = []
    step = top
    while step > 0:
        apart = step
        odd = 0
        reach = top
        while apart > 0:
            pairs.extend([(i, i + apart) for i in range(n - apart) if i & step == odd])
            apart = reach - step
            odd = step
            reach = reach // 2
        step = step // 2
    return tuple(pairs)


def least_network(n):
    """Some network with as few pairs as any that sorts n places, up to five."""
    if n > MOST_LEAST_PLACES:
        raise Refused(n)
    return merging_network(n)
