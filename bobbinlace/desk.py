"""The calls: each takes a number of pairs and workings, and answers a list of whole numbers."""

MOST_PAIRS = 32
MOST_ACTS = 512
CROSS = 64
OVER = 128


def is_act(n, number):
    """Whether the number is a twist or a cross of n pairs."""
    if number < CROSS:
        return number < n
    # A cross takes the pair to its right too, so the last pair has none.
    return number - CROSS < n - 1


def left_place(act):
    """The left one of the two places at which the act is made."""
    if act < CROSS:
        return 2 * act
    return 2 * (act - CROSS) + 1


def out_of_bounds(n, a):
    """Whether there are too few or too many pairs, or too many acts."""
    return n < 1 or n > MOST_PAIRS or len(a) > MOST_ACTS


def first_wrong(n, a):
    """The place in a of the first number that is no act of n pairs; the length of a if there is none."""
    for place, number in enumerate(a):
        if not is_act(n, number):
            return place
    return len(a)


def refusal(n, a):
    """The number of the first refusal that holds, or 0."""
    # The bounds go first: a list that is too long is refused for that, whatever it holds.
    if out_of_bounds(n, a):
        return -1
    if first_wrong(n, a) < len(a):
        return -5
    return 0


def all_acts(n):
    """Every act of n pairs, the least number first."""
    return list(range(n)) + list(range(CROSS, CROSS + n - 1))


def change_places(threads, place):
    """Lets the threads at the place and at the one to its right change places."""
    moved = threads[place]
    threads[place] = threads[place + 1]
    threads[place + 1] = moved


def threads_behind(n, a):
    """The thread at each place behind the working a."""
    threads = list(range(2 * n))
    for act in a:
        change_places(threads, left_place(act))
    return threads


def ways_of(n, t, a):
    """For each crossing of thread t in the working a: the other thread's number, and OVER more where t goes over it."""
    threads = list(range(2 * n))
    ways = []
    for act in a:
        place = left_place(act)
        # At a cross the left one of the two threads goes over, at a twist the right one.
        crossed = act >= CROSS
        if threads[place] == t:
            ways.append(threads[place + 1] + (OVER if crossed else 0))
        elif threads[place + 1] == t:
            ways.append(threads[place] + (0 if crossed else OVER))
        change_places(threads, place)
    return ways


def rows_of(n, a):
    """For each place the acts of a that are made at it, the first one last, where it is taken off at once."""
    # Acts that touch meet in a row, and only they can't change places: the rows are the lace, whatever the working.
    rows = [[] for place in range(2 * n)]
    for act in reversed(a):
        place = left_place(act)
        rows[place].append(act)
        rows[place + 1].append(act)
    return rows


def is_first(rows, act):
    """Whether a working of the lace in the rows begins with the act: nothing that touches it stands ahead of it."""
    here = rows[left_place(act)]
    there = rows[left_place(act) + 1]
    return len(here) > 0 and len(there) > 0 and here[-1] == act and there[-1] == act


def take_first(rows, act):
    """Takes the act, which is first, off the lace in the rows."""
    place = left_place(act)
    rows[place].pop()
    rows[place + 1].pop()


def form_of(n, a):
    """The form of the working a's lace."""
    rows = rows_of(n, a)
    acts = all_acts(n)
    taken = []
    while len(taken) < len(a):
        # The form is the least by its first act, then by its second: so each time the least one that can be first.
        least = min([act for act in acts if is_first(rows, act)])
        take_first(rows, least)
        taken.append(least)
    return taken


def right(n, a):
    """[0] if a is a working of n pairs, else the refusal; behind -5 the place of the first number that is no act."""
    refused = refusal(n, a)
    if refused == -5:
        return [-5, first_wrong(n, a)]
    return [refused]


def ends(n, a):
    """[0] and the thread at each of the 2 n places behind the working a, or the refusal."""
    refused = refusal(n, a)
    if refused != 0:
        return [refused]
    return [0] + threads_behind(n, a)


def thread(n, t, a):
    """[0] and the ways of thread t in the working a, or the refusal."""
    # A t that is no thread is refused like n, so ahead of a number that is no act.
    if t >= 2 * n:
        return [-1]
    refused = refusal(n, a)
    if refused != 0:
        return [refused]
    return [0] + ways_of(n, t, a)


def form(n, a):
    """[0] and the form of the working a's lace, or the refusal."""
    refused = refusal(n, a)
    if refused != 0:
        return [refused]
    return [0] + form_of(n, a)
