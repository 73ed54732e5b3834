"""What the document says, written out anew and slowly, to hold the program against."""

GREATEST = 4294967295
PAIRS_OUT_OF_BOUNDS = (0, 33, 64, 256, GREATEST)


def acts_of(n):
    """All acts of n pairs."""
    return [k for k in range(n)] + [64 + k for k in range(n - 1)]


def some_working(n, length, seed):
    """A working that is the same each time, spread over all acts of n pairs."""
    acts = acts_of(n)
    working = []
    for _ in range(length):
        seed = (seed * 1103515245 + 12345) % 2 ** 31
        working.append(acts[(seed >> 8) % len(acts)])
    return working


def each_working(n, most):
    """Every working of n pairs with at most so many acts."""
    rows = [[]]
    while rows:
        yield from rows
        rows = [row + [act] for row in rows for act in acts_of(n) if len(row) < most]


def places_of(act):
    if act < 64:
        return (2 * act, 2 * act + 1)
    return (2 * (act - 64) + 1, 2 * (act - 64) + 2)


def touch(one, other):
    return bool(set(places_of(one)) & set(places_of(other)))


def lawful_changes(working):
    """The workings to which one lawful change leads."""
    for k in range(len(working) - 1):
        if not touch(working[k], working[k + 1]):
            yield working[:k] + [working[k + 1], working[k]] + working[k + 2:]


def lace_of(working):
    """All workings to which lawful changes lead, as a set of tuples."""
    found = {tuple(working)}
    waiting = [list(working)]
    while waiting:
        for changed in lawful_changes(waiting.pop()):
            if tuple(changed) not in found:
                found.add(tuple(changed))
                waiting.append(changed)
    return found


def stirred(working, seed):
    """Another working of the same lace: many lawful changes, one after another."""
    stirred_one = list(working)
    for _ in range(8 * len(working)):
        seed = (seed * 1103515245 + 12345) % 2 ** 31
        k = (seed >> 8) % len(working)
        pair = stirred_one[k:k + 2]
        if len(pair) == 2 and not touch(pair[0], pair[1]):
            stirred_one[k:k + 2] = pair[::-1]
    return stirred_one


def beginnings_of(working):
    """All workings that are a beginning of the lace, as a set of tuples."""
    return {one[:length] for one in lace_of(working) for length in range(len(one) + 1)}


def slow_common(one, other):
    """The form of the common beginning of two short workings, by all beginnings of both."""
    both = beginnings_of(one) & beginnings_of(other)
    longest = max(len(beginning) for beginning in both)
    return list(min(beginning for beginning in both if len(beginning) == longest))


def slow_left(one, other):
    """The form of what's left of the other behind the one, by all workings of the other; None if there's none."""
    behind = [working[len(one):] for working in lace_of(other) if working[:len(one)] == tuple(one)]
    return list(min(behind)) if behind else None


def free_places(working):
    """The acts that nothing ahead of them touches, with their places in the working."""
    free = {}
    held = set()
    for place, act in enumerate(working):
        if not held & set(places_of(act)):
            free[act] = place
        held.update(places_of(act))
    return free


def slow_form(working):
    """The form of a working of any length."""
    rest = list(working)
    found = []
    while rest:
        free = free_places(rest)
        found.append(min(free))
        rest.pop(free[min(free)])
    return found


def split_off(one, other):
    """The common beginning of two workings of any length, and what's left of each of them."""
    rests = [list(one), list(other)]
    found = []
    while True:
        free = [free_places(rest) for rest in rests]
        both = [act for act in free[0] if act in free[1]]
        if not both:
            return found, rests[0], rests[1]
        # Any of them will do: the last one, to go another way than the form's.
        act = max(both)
        found.append(act)
        for rest, places in zip(rests, free):
            rest.pop(places[act])


# Small n, and how many acts a working has at most that every working is paired with.
SHORT = ((1, 4), (2, 3), (3, 2), (4, 2))


def short_pairs():
    """For small n, every two short workings."""
    for n, most in SHORT:
        workings = list(each_working(n, most))
        for one in workings:
            for other in workings:
                yield n, one, other


def drawn_pairs(lengths, count, several=(2, 3, 4, 5)):
    """Pairs of workings of several n that begin alike up to lawful changes and then part, or don't."""
    for n in several:
        for length in lengths:
            for seed in range(count):
                drawn = 1000 * n + 37 * length + seed
                alike = some_working(n, seed % (length + 1), drawn)
                one = alike + some_working(n, length - len(alike), drawn + 1)
                other = alike + some_working(n, length - len(alike) - (seed % 2) * (length > len(alike)), drawn + 2)
                yield n, stirred(one, drawn), stirred(other, drawn + 3)


def place_of_thread(thread, working):
    """Follows one thread alone, apart from the others."""
    place = thread
    for act in working:
        here, there = places_of(act)
        if place == here:
            place = there
        elif place == there:
            place = here
    return place


def crossings_of(n, thread, working):
    """The thread's ways as pairs (the other thread, whether the thread goes over it), each thread followed alone."""
    ways = []
    for k, act in enumerate(working):
        at = {place_of_thread(one, working[:k]): one for one in range(2 * n)}
        here, there = places_of(act)
        upper, lower = (at[there], at[here]) if act < 64 else (at[here], at[there])
        if upper == thread:
            ways.append((lower, True))
        if lower == thread:
            ways.append((upper, False))
    return ways
