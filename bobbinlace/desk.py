"""The calls: each takes a number of pairs and workings, and answers a list of whole numbers."""

MOST_PAIRS = 32
MOST_ACTS = 512
CROSS = 64


def is_act(n, number):
    """Whether the number is a twist or a cross of n pairs."""
    if number < CROSS:
        return number < n
    # A cross takes the pair to its right too, so the last pair has none.
    return number - CROSS < n - 1


def left_place(act):
    """The left one of the two places at which the act is made."""
    if act < CROSS:
        return 2 * act
    return 2 * (act - CROSS) + 1


def out_of_bounds(n, a):
    """Whether there are too few or too many pairs, or too many acts."""
    return n < 1 or n > MOST_PAIRS or len(a) > MOST_ACTS


def first_wrong(n, a):
    """The place in a of the first number that is no act of n pairs; the length of a if there is none."""
    for place, number in enumerate(a):
        if not is_act(n, number):
            return place
    return len(a)


def refusal(n, a):
    """The number of the first refusal that holds, or 0."""
    # The bounds go first: a list that is too long is refused for that, whatever it holds.
    if out_of_bounds(n, a):
        return -1
    if first_wrong(n, a) < len(a):
        return -5
    return 0


def threads_behind(n, a):
    """The thread at each place behind the working a."""
    threads = list(range(2 * n))
    for act in a:
        place = left_place(act)
        moved = threads[place]
        threads[place] = threads[place + 1]
        threads[place + 1] = moved
    return threads


def right(n, a):
    """[0] if a is a working of n pairs, else the refusal; behind -5 the place of the first number that is no act."""
    refused = refusal(n, a)
    if refused == -5:
        return [-5, first_wrong(n, a)]
    return [refused]


def ends(n, a):
    """[0] and the thread at each of the 2 n places behind the working a, or the refusal."""
    refused = refusal(n, a)
    if refused != 0:
        return [refused]
    return [0] + threads_behind(n, a)
