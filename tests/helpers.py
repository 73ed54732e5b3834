"""What the document says, written out anew and slowly, to hold the program against."""

GREATEST = 4294967295
PAIRS_OUT_OF_BOUNDS = (0, 33, 64, 256, GREATEST)


def acts_of(n):
    """All acts of n pairs."""
    return [k for k in range(n)] + [64 + k for k in range(n - 1)]


def some_working(n, length, seed):
    """A working that is the same each time, spread over all acts of n pairs."""
    acts = acts_of(n)
    working = []
    for _ in range(length):
        seed = (seed * 1103515245 + 12345) % 2 ** 31
        working.append(acts[(seed >> 8) % len(acts)])
    return working


def each_working(n, most):
    """Every working of n pairs with at most so many acts."""
    rows = [[]]
    while rows:
        yield from rows
        rows = [row + [act] for row in rows for act in acts_of(n) if len(row) < most]


def places_of(act):
    if act < 64:
        return (2 * act, 2 * act + 1)
    return (2 * (act - 64) + 1, 2 * (act - 64) + 2)


def touch(one, other):
    return bool(set(places_of(one)) & set(places_of(other)))


def lawful_changes(working):
    """The workings to which one lawful change leads."""
    for k in range(len(working) - 1):
        if not touch(working[k], working[k + 1]):
            yield working[:k] + [working[k + 1], working[k]] + working[k + 2:]


def lace_of(working):
    """All workings to which lawful changes lead, as a set of tuples."""
    found = {tuple(working)}
    waiting = [list(working)]
    while waiting:
        for changed in lawful_changes(waiting.pop()):
            if tuple(changed) not in found:
                found.add(tuple(changed))
                waiting.append(changed)
    return found


def stirred(working, seed):
    """Another working of the same lace: many lawful changes, one after another."""
    stirred_one = list(working)
    for _ in range(8 * len(working)):
        seed = (seed * 1103515245 + 12345) % 2 ** 31
        k = (seed >> 8) % len(working)
        pair = stirred_one[k:k + 2]
        if len(pair) == 2 and not touch(pair[0], pair[1]):
            stirred_one[k:k + 2] = pair[::-1]
    return stirred_one


def slow_form(working):
    """The form, by searching what's left for the acts that nothing ahead of them touches."""
    rest = list(working)
    found = []
    while rest:
        free = []
        held = set()
        for place, act in enumerate(rest):
            if not held & set(places_of(act)):
                free.append((act, place))
            held.update(places_of(act))
        act, place = min(free)
        found.append(act)
        rest.pop(place)
    return found


def place_of_thread(thread, working):
    """Follows one thread alone, apart from the others."""
    place = thread
    for act in working:
        here, there = places_of(act)
        if place == here:
            place = there
        elif place == there:
            place = here
    return place


def crossings_of(n, thread, working):
    """The thread's ways as pairs (the other thread, whether the thread goes over it), each thread followed alone."""
    ways = []
    for k, act in enumerate(working):
        at = {place_of_thread(one, working[:k]): one for one in range(2 * n)}
        here, there = places_of(act)
        upper, lower = (at[there], at[here]) if act < 64 else (at[here], at[there])
        if upper == thread:
            ways.append((lower, True))
        if lower == thread:
            ways.append((upper, False))
    return ways
